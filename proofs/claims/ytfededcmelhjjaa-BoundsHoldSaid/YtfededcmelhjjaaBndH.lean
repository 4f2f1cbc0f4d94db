/-
  Package bounds: Given. (Written by gen_bndd.py.)
-/
import Derived.Test.YtfededcmelhjjaaBndE
namespace Go.Proofs.Ytfededcmelhjjaa.Bnd
open Go.RowKit
set_option linter.unusedVariables false
set_option linter.unusedSimpArgs false
set_option linter.unnecessarySimpa false
set_option maxRecDepth 100000

set_option maxHeartbeats 16000000 in
theorem given_n (cc a b c d p q r t : Int) (W : World) (ha : Rg.Ok ⟨⟨a, b⟩, ⟨c, d⟩⟩) (hb : Rg.Ok ⟨⟨p, q⟩, ⟨r, t⟩⟩) : Calls Try.prog 24 #[.int .i8 cc, .agg #[.int .u64 a, .int .u64 b, .int .i64 c, .int .i64 d], .agg #[.int .u64 p, .int .u64 q, .int .i64 r, .int .i64 t]] W fun e w' => e = .returned (.tuple #[.agg #[.int .u64 (Rg.giv cc ⟨⟨a, b⟩, ⟨c, d⟩⟩ ⟨⟨p, q⟩, ⟨r, t⟩⟩).u.lo, .int .u64 (Rg.giv cc ⟨⟨a, b⟩, ⟨c, d⟩⟩ ⟨⟨p, q⟩, ⟨r, t⟩⟩).u.hi, .int .i64 (Rg.giv cc ⟨⟨a, b⟩, ⟨c, d⟩⟩ ⟨⟨p, q⟩, ⟨r, t⟩⟩).s.lo, .int .i64 (Rg.giv cc ⟨⟨a, b⟩, ⟨c, d⟩⟩ ⟨⟨p, q⟩, ⟨r, t⟩⟩).s.hi], .bool (Rg.givB cc ⟨⟨a, b⟩, ⟨c, d⟩⟩ ⟨⟨p, q⟩, ⟨r, t⟩⟩)]) ∧ Below W.heap.size W w' := by
  have HA := Lib.hid ha
  have HB := Lib.hid hb
  clear ha hb
  refine calls_abs Try.func24 rfl (Nat.le_of_ble_eq_true rfl) ?_
  intro a0 d0 z0 h0
  have z0 : a0.tmps.size = 105 := z0
  have s0_0 : a0.tmps.getD 0 undef = .int .i8 cc := h0 0 (Nat.le_of_ble_eq_true rfl)
  have s1_0 : a0.tmps.getD 1 undef = .agg #[.int .u64 a, .int .u64 b, .int .i64 c, .int .i64 d] := h0 1 (Nat.le_of_ble_eq_true rfl)
  have s2_0 : a0.tmps.getD 2 undef = .agg #[.int .u64 p, .int .u64 q, .int .i64 r, .int .i64 t] := h0 2 (Nat.le_of_ble_eq_true rfl)
  clear h0
  have B0 : Below W.heap.size W W := Below.refl _ _
  refine wp_seq ?_
  refine wp_regx (SX W W.heap.size [] [⟨0, 4, 60, (cR a b c d), none, #[]⟩, ⟨1, 5, 60, (cR p q r t), none, #[]⟩, ⟨2, 6, 60, (cR 0 0 0 0), none, #[]⟩]) (TabX [fun _ => True, fun _ => True, fun _ => True, fun vx => vx = .bool false]) (by kernel_rfl) (back_of (by kernel_rfl)) (dst_of (by kernel_rfl)) (in_ofz (by kernel_rfl) z0) (fun fl w1 hfl hw => SX.start' hw B0 hfl rfl trivial) ?h1 ?_
  case h1 =>
    intro ix ox ax wx fl ho hS hfi clo hsz hrest hdone hund
    have t1 := (hrest 1 (not_of (by kernel_rfl))).trans s1_0
    have t2 := (hrest 2 (not_of (by kernel_rfl))).trans s2_0
    have hs : ax.tmps.size = 105 := hsz.trans z0
    have hi : ix < 4 := (Array.getElem?_eq_some_iff.1 ho).1
    clear hrest hsz hund
    obtain rfl | rfl | rfl | rfl : ix = 0 ∨ ix = 1 ∨ ix = 2 ∨ ix = 3 := by omega
    all_goals obtain rfl := Option.some.inj (show some _ = some ox from ho)
    ·
     refine wpOp_val (v := .pointer (some ⟨wx.heap.size, 0, none⟩)) (w' := wx.alloc (.cells #[.int .u64 a, .int .u64 b, .int .i64 c, .int .i64 d] 60)) rfl rfl ?_ ⟨_, rfl, trivial, hS.alloc 0 4 60 #[.int .u64 a, .int .u64 b, .int .i64 c, .int .i64 d] [] [⟨1, 5, 60, (cR p q r t), none, #[]⟩, ⟨2, 6, 60, (cR 0 0 0 0), none, #[]⟩] (none) #[] rfl rfl rfl (by rw [hs]; omega) trivial⟩
     · simp [execOp, Act.eval, t1, go_sem]
    ·
     refine wpOp_val (v := .pointer (some ⟨wx.heap.size, 0, none⟩)) (w' := wx.alloc (.cells #[.int .u64 p, .int .u64 q, .int .i64 r, .int .i64 t] 60)) rfl rfl ?_ ⟨_, rfl, trivial, hS.alloc 1 5 60 #[.int .u64 p, .int .u64 q, .int .i64 r, .int .i64 t] [⟨0, 4, 60, (cR a b c d), none, #[]⟩] [⟨2, 6, 60, (cR 0 0 0 0), none, #[]⟩] (none) #[] rfl rfl rfl (by rw [hs]; omega) trivial⟩
     · simp [execOp, Act.eval, t2, go_sem]
    ·
     refine wpOp_val (v := .pointer (some ⟨wx.heap.size, 0, none⟩)) (w' := wx.alloc (.cells #[.int .u64 0, .int .u64 0, .int .i64 0, .int .i64 0] 60)) rfl rfl ?_ ⟨_, rfl, trivial, hS.alloc 2 6 60 #[.int .u64 0, .int .u64 0, .int .i64 0, .int .i64 0] [⟨0, 4, 60, (cR a b c d), none, #[]⟩, ⟨1, 5, 60, (cR p q r t), none, #[]⟩] [] (none) #[] rfl rfl rfl (by rw [hs]; omega) trivial⟩
     · simp [execOp, Act.eval, go_sem]
    ·
     exact wpOp_val (v := .bool false) (w' := wx) rfl rfl (by simp [execOp, Act.eval]) ⟨_, rfl, tab_put rfl hs rfl rfl, hS.same 3 rfl⟩
  intro a1 w1 fl d1 z1 rest1 R1 hfl hS
  obtain ⟨B1, n1, hBs, hAs, hPs⟩ := hS.finish hfl rfl
  replace d1 := d1.trans d0
  replace z1 := z1.trans z0
  obtain ⟨⟨g1, u_g1, q_g1, b_g1_1⟩, ⟨g2, u_g2, q_g2, b_g2_1⟩, ⟨g3, u_g3, q_g3, b_g3_1⟩, -⟩ := hAs
  replace u_g1 : a1.tmps.getD 4 undef = .pointer (some ⟨g1, 0, none⟩) := u_g1
  have m_g1 : W.heap.size ≤ g1 := q_g1
  replace q_g1 : W.heap.size ≤ g1 := Nat.le_trans B0.size q_g1
  replace u_g2 : a1.tmps.getD 5 undef = .pointer (some ⟨g2, 0, none⟩) := u_g2
  have m_g2 : W.heap.size ≤ g2 := q_g2
  replace q_g2 : W.heap.size ≤ g2 := Nat.le_trans B0.size q_g2
  replace u_g3 : a1.tmps.getD 6 undef = .pointer (some ⟨g3, 0, none⟩) := u_g3
  have m_g3 : W.heap.size ≤ g3 := q_g3
  replace q_g3 : W.heap.size ≤ g3 := Nat.le_trans B0.size q_g3
  simp only [List.pairwise_cons, List.mem_cons, List.not_mem_nil, or_false, forall_eq_or_imp, forall_eq] at hPs
  have ne_g1_g2 : g1 ≠ g2 := by
    have hn : slotOf a1 4 ≠ slotOf a1 5 := hPs.1.1
    intro e; subst e; exact hn (Eq.trans u_g1 u_g2.symm)
  have ne_g1_g3 : g1 ≠ g3 := by
    have hn : slotOf a1 4 ≠ slotOf a1 6 := hPs.1.2
    intro e; subst e; exact hn (Eq.trans u_g1 u_g3.symm)
  have ne_g2_g3 : g2 ≠ g3 := by
    have hn : slotOf a1 5 ≠ slotOf a1 6 := hPs.2.1
    intro e; subst e; exact hn (Eq.trans u_g2 u_g3.symm)
  have s0_1 := (rest1 0 (not_of (by kernel_rfl))).trans s0_0
  have s7_1 : a1.tmps.getD 7 undef = .bool false := R1 3 _ rfl
  clear R1 rest1 hS hfl hPs hBs
  clear s0_0 s1_0 s2_0 d0 z0
  refine wp_seq ?_
  refine wp_seq ?_
  cases fk1 : Rg.mayB ⟨⟨a, b⟩, ⟨c, d⟩⟩
  case false =>
   have Ffk1 := Lib.hid fk1; clear fk1
   refine wp_regx (SX W w1.heap.size [⟨g1, 60, (cR a b c d), none, #[]⟩, ⟨g2, 60, (cR p q r t), none, #[]⟩, ⟨g3, 60, (cR 0 0 0 0), none, #[]⟩] []) (TabX [fun vx => vx = .agg #[.int .u64 a, .int .u64 b, .int .i64 c, .int .i64 d], fun vx => vx = .bool false, fun vx => vx = .bool true, fun vx => vx = .bool true, fun vx => vx = undef, fun vx => vx = undef, fun vx => vx = undef, fun vx => vx = .bool true]) (by kernel_rfl) (back_of (by kernel_rfl)) (dst_of (by kernel_rfl)) (in_ofz (by kernel_rfl) z1) (fun fl w1 hfl hw => SX.start' hw B1 hfl rfl ⟨b_g1_1, b_g2_1, b_g3_1, trivial⟩) ?h2 ?_
   case h2 =>
     intro ix ox ax wx fl ho hS hfi clo hsz hrest hdone hund
     have t4 := (hrest 4 (not_of (by kernel_rfl))).trans u_g1
     have t5 := (hrest 5 (not_of (by kernel_rfl))).trans u_g2
     have hs : ax.tmps.size = 105 := hsz.trans z1
     have hi : ix < 8 := (Array.getElem?_eq_some_iff.1 ho).1
     clear hrest hsz hund
     obtain rfl | rfl | rfl | rfl | rfl | rfl | rfl | rfl : ix = 0 ∨ ix = 1 ∨ ix = 2 ∨ ix = 3 ∨ ix = 4 ∨ ix = 5 ∨ ix = 6 ∨ ix = 7 := by omega
     all_goals obtain rfl := Option.some.inj (show some _ = some ox from ho)
     ·
      have hr := hS.rowNi 0 rfl
      exact wpOp_val (v := .agg #[.int .u64 a, .int .u64 b, .int .i64 c, .int .i64 d]) (w' := wx) rfl rfl (exec_loadR 60 _ rfl g1 0 (show ax.eval (.tmp 4) = .pointer (some ⟨g1, 0, none⟩) from t4) hr [.int .u64 a, .int .u64 b, .int .i64 c, .int .i64 d] rfl _ Try.underlying60 rfl (by kernel_rfl)) ⟨_, rfl, tab_put rfl hs rfl rfl, hS.same 0 rfl⟩
     ·
      have s12 : ax.tmps.getD 12 undef = .agg #[.int .u64 a, .int .u64 b, .int .i64 c, .int .i64 d] := (hdone 0 _ rfl rfl).2 _ rfl
      refine wpOp_call (args := #[.agg #[.int .u64 a, .int .u64 b, .int .i64 c, .int .i64 d]]) rfl rfl (exec_call rfl rfl rfl (args1 (show ax.eval (.tmp 12) = .agg #[.int .u64 a, .int .u64 b, .int .i64 c, .int .i64 d] from s12)) Try.func30 (by decide +kernel) rfl) ?_
      · refine (may_n a b c d wx).mono ?_
        rintro e w' ⟨rfl, b9⟩
        exact ⟨_, rfl, _, rfl, tab_put rfl hs rfl (congrArg Value.bool Ffk1.out), hS.quiet 1 rfl b9⟩
     ·
      have s13 : ax.tmps.getD 13 undef = .bool false := (hdone 0 _ rfl rfl).2 _ rfl
      exact wpOp_val (v := .bool true) (w' := wx) rfl rfl (by simp [execOp, Act.eval, s13, go_sem]) ⟨_, rfl, tab_put rfl hs rfl rfl, hS.same 2 rfl⟩
     ·
      have s14 : ax.tmps.getD 14 undef = .bool true := (hdone 0 _ rfl rfl).2 _ rfl
      exact wpOp_val (v := .bool true) (w' := wx) rfl rfl (by simp [execOp, Act.eval, s14]) ⟨_, rfl, tab_put rfl hs rfl rfl, hS.same 3 rfl⟩
     ·
      have hg : ax.tmps.getD 15 undef = .bool true := (hdone 0 _ rfl rfl).2 _ rfl
      exact wpOp_no rfl (wanted_no 3 15 true hg (by rw [hs]; omega) rfl rfl rfl rfl) ⟨_, rfl, tab_put rfl hs rfl rfl, hS.same 4 rfl⟩
     ·
      have hg : ax.tmps.getD 15 undef = .bool true := (hdone 1 _ rfl rfl).2 _ rfl
      exact wpOp_no rfl (wanted_no 3 15 true hg (by rw [hs]; omega) rfl rfl rfl rfl) ⟨_, rfl, tab_put rfl hs rfl rfl, hS.same 5 rfl⟩
     ·
      have hg : ax.tmps.getD 15 undef = .bool true := (hdone 1 _ rfl rfl).2 _ rfl
      exact wpOp_no rfl (wanted_no 3 15 true hg (by rw [hs]; omega) rfl rfl rfl rfl) ⟨_, rfl, tab_put rfl hs rfl rfl, hS.same 6 rfl⟩
     ·
      have s15 : ax.tmps.getD 15 undef = .bool true := (hdone 0 _ rfl rfl).2 _ rfl
      have s18 : ax.tmps.getD 18 undef = undef := (hdone 1 _ rfl rfl).2 _ rfl
      exact wpOp_val (v := .bool true) (w' := wx) rfl rfl (by simp [execOp, Act.eval, s15, s18, go_sem]) ⟨_, rfl, tab_put rfl hs rfl rfl, hS.same 7 rfl⟩
   intro a2 w2 fl d2 z2 rest2 R2 hfl hS
   obtain ⟨B2, n2, hBs, hAs, hPs⟩ := hS.finish hfl rfl
   replace d2 := d2.trans d1
   replace z2 := z2.trans z1
   obtain ⟨⟨l_g1_2, b_g1_2⟩, ⟨l_g2_2, b_g2_2⟩, ⟨l_g3_2, b_g3_2⟩, -⟩ := hBs
   replace l_g1_2 : g1 < w1.heap.size := l_g1_2
   replace l_g2_2 : g2 < w1.heap.size := l_g2_2
   replace l_g3_2 : g3 < w1.heap.size := l_g3_2
   have s0_2 := (rest2 0 (not_of (by kernel_rfl))).trans s0_1
   have s4_2 := (rest2 4 (not_of (by kernel_rfl))).trans u_g1
   have s5_2 := (rest2 5 (not_of (by kernel_rfl))).trans u_g2
   have s6_2 := (rest2 6 (not_of (by kernel_rfl))).trans u_g3
   have s7_2 := (rest2 7 (not_of (by kernel_rfl))).trans s7_1
   have s19_2 : a2.tmps.getD 19 undef = .bool true := R2 7 _ rfl
   clear R2 rest2 hS hfl hPs hAs
   clear u_g1 u_g2 u_g3 s0_1 s7_1 b_g1_1 b_g2_1 b_g3_1 d1 z1
   refine wp_cond_true (show a2.tmps.getD 19 undef = .bool true from s19_2) ?_
   refine wp_seq ?_
   refine wp_regx (SX W w2.heap.size [⟨g1, 60, (cR a b c d), none, #[]⟩, ⟨g2, 60, (cR p q r t), none, #[]⟩, ⟨g3, 60, (cR 0 0 0 0), some 1, (cR allR.u.lo allR.u.hi allR.s.lo allR.s.hi)⟩] []) (TabX [fun vx => vx = .agg #[.int .u64 allR.u.lo, .int .u64 allR.u.hi, .int .i64 allR.s.lo, .int .i64 allR.s.hi], fun _ => True, fun vx => vx = .bool false]) (by kernel_rfl) (back_of (by kernel_rfl)) (dst_of (by kernel_rfl)) (in_ofz (by kernel_rfl) z2) (fun fl w1 hfl hw => SX.start' hw B2 hfl rfl ⟨b_g1_2, b_g2_2, b_g3_2, trivial⟩) ?h3 ?_
   case h3 =>
     intro ix ox ax wx fl ho hS hfi clo hsz hrest hdone hund
     have t6 := (hrest 6 (not_of (by kernel_rfl))).trans s6_2
     have hs : ax.tmps.size = 105 := hsz.trans z2
     have hi : ix < 3 := (Array.getElem?_eq_some_iff.1 ho).1
     clear hrest hsz hund
     obtain rfl | rfl | rfl : ix = 0 ∨ ix = 1 ∨ ix = 2 := by omega
     all_goals obtain rfl := Option.some.inj (show some _ = some ox from ho)
     ·
      refine wpOp_call (args := #[]) rfl rfl (exec_call rfl rfl rfl (args0 ) Try.func32 (by decide +kernel) rfl) ?_
      · refine (all_n wx).mono ?_
        rintro e w' ⟨rfl, b9⟩
        exact ⟨_, rfl, _, rfl, tab_put rfl hs rfl rfl, hS.quiet 0 rfl b9⟩
     ·
      have s20 : ax.tmps.getD 20 undef = .agg #[.int .u64 allR.u.lo, .int .u64 allR.u.hi, .int .i64 allR.s.lo, .int .i64 allR.s.hi] := (hdone 0 _ rfl rfl).2 _ rfl
      have hr := hS.rowFi 2 rfl hfi
      exact wpOp_skp (w' := wx.setRow g3 #[.int .u64 allR.u.lo, .int .u64 allR.u.hi, .int .i64 allR.s.lo, .int .i64 allR.s.hi]) rfl rfl (exec_storeR 60 _ _ rfl g3 #[.int .u64 allR.u.lo, .int .u64 allR.u.hi, .int .i64 allR.s.lo, .int .i64 allR.s.hi] (show ax.eval (.tmp 6) = .pointer (some ⟨g3, 0, none⟩) from t6) (show ax.eval (.tmp 20) = .agg #[.int .u64 allR.u.lo, .int .u64 allR.u.hi, .int .i64 allR.s.lo, .int .i64 allR.s.hi] from s20) hr (by kernel_rfl) rfl (by simp [Value.oneCell'])) ⟨undef, rfl, trivial, hS.storeBi 1 2 rfl q_g3 rfl ⟨(show g1 ≠ g3 by omega), (show g2 ≠ g3 by omega), trivial⟩ (stored_setRow wx g3 _ _ _ hr)⟩
     ·
      exact wpOp_val (v := .bool false) (w' := wx) rfl rfl (by simp [execOp, Act.eval]) ⟨_, rfl, tab_put rfl hs rfl rfl, hS.same 2 rfl⟩
   intro a3 w3 fl d3 z3 rest3 R3 hfl hS
   obtain ⟨B3, n3, hBs, hAs, hPs⟩ := hS.finish hfl rfl
   replace d3 := d3.trans d2
   replace z3 := z3.trans z2
   obtain ⟨⟨-, b_g1_3⟩, ⟨-, b_g2_3⟩, ⟨-, b_g3_3⟩, -⟩ := hBs
   have s0_3 := (rest3 0 (not_of (by kernel_rfl))).trans s0_2
   have s4_3 := (rest3 4 (not_of (by kernel_rfl))).trans s4_2
   have s5_3 := (rest3 5 (not_of (by kernel_rfl))).trans s5_2
   have s6_3 := (rest3 6 (not_of (by kernel_rfl))).trans s6_2
   have s7_3 : a3.tmps.getD 7 undef = .bool false := R3 2 _ rfl
   clear R3 rest3 hS hfl hPs hAs
   clear s0_2 s4_2 s5_2 s6_2 s7_2 s19_2 b_g1_2 b_g2_2 b_g3_2 d2 z2
   refine wp_ret ?_
   try simp only [Exit.inBlock, Exit.then]
   refine bodyPost_ret (res_ct (fn := Try.f24) rfl s6_3 (load_row 60 b_g3_3 Try.underlying60 rfl (by kernel_rfl)) s7_3) d3 ?_
   have HE : Value.tuple #[.agg #[.int .u64 allR.u.lo, .int .u64 allR.u.hi, .int .i64 allR.s.lo, .int .i64 allR.s.hi], .bool false] = .tuple #[Rg.val (Rg.giv cc ⟨⟨a, b⟩, ⟨c, d⟩⟩ ⟨⟨p, q⟩, ⟨r, t⟩⟩), .bool (Rg.givB cc ⟨⟨a, b⟩, ⟨c, d⟩⟩ ⟨⟨p, q⟩, ⟨r, t⟩⟩)] := by unfold Rg.giv Rg.givB; rw [Ffk1.out]; rfl
   exact ⟨retV HE, B3⟩
  have Ffk1 := Lib.hid fk1; clear fk1
  cases fk2 : Rg.mayB ⟨⟨p, q⟩, ⟨r, t⟩⟩
  case false =>
   have Ffk2 := Lib.hid fk2; clear fk2
   refine wp_regx (SX W w1.heap.size [⟨g1, 60, (cR a b c d), none, #[]⟩, ⟨g2, 60, (cR p q r t), none, #[]⟩, ⟨g3, 60, (cR 0 0 0 0), none, #[]⟩] []) (TabX [fun vx => vx = .agg #[.int .u64 a, .int .u64 b, .int .i64 c, .int .i64 d], fun vx => vx = .bool true, fun vx => vx = .bool false, fun vx => vx = .bool false, fun vx => vx = .agg #[.int .u64 p, .int .u64 q, .int .i64 r, .int .i64 t], fun vx => vx = .bool false, fun vx => vx = .bool true, fun vx => vx = .bool true]) (by kernel_rfl) (back_of (by kernel_rfl)) (dst_of (by kernel_rfl)) (in_ofz (by kernel_rfl) z1) (fun fl w1 hfl hw => SX.start' hw B1 hfl rfl ⟨b_g1_1, b_g2_1, b_g3_1, trivial⟩) ?h4 ?_
   case h4 =>
     intro ix ox ax wx fl ho hS hfi clo hsz hrest hdone hund
     have t4 := (hrest 4 (not_of (by kernel_rfl))).trans u_g1
     have t5 := (hrest 5 (not_of (by kernel_rfl))).trans u_g2
     have hs : ax.tmps.size = 105 := hsz.trans z1
     have hi : ix < 8 := (Array.getElem?_eq_some_iff.1 ho).1
     clear hrest hsz hund
     obtain rfl | rfl | rfl | rfl | rfl | rfl | rfl | rfl : ix = 0 ∨ ix = 1 ∨ ix = 2 ∨ ix = 3 ∨ ix = 4 ∨ ix = 5 ∨ ix = 6 ∨ ix = 7 := by omega
     all_goals obtain rfl := Option.some.inj (show some _ = some ox from ho)
     ·
      have hr := hS.rowNi 0 rfl
      exact wpOp_val (v := .agg #[.int .u64 a, .int .u64 b, .int .i64 c, .int .i64 d]) (w' := wx) rfl rfl (exec_loadR 60 _ rfl g1 0 (show ax.eval (.tmp 4) = .pointer (some ⟨g1, 0, none⟩) from t4) hr [.int .u64 a, .int .u64 b, .int .i64 c, .int .i64 d] rfl _ Try.underlying60 rfl (by kernel_rfl)) ⟨_, rfl, tab_put rfl hs rfl rfl, hS.same 0 rfl⟩
     ·
      have s12 : ax.tmps.getD 12 undef = .agg #[.int .u64 a, .int .u64 b, .int .i64 c, .int .i64 d] := (hdone 0 _ rfl rfl).2 _ rfl
      refine wpOp_call (args := #[.agg #[.int .u64 a, .int .u64 b, .int .i64 c, .int .i64 d]]) rfl rfl (exec_call rfl rfl rfl (args1 (show ax.eval (.tmp 12) = .agg #[.int .u64 a, .int .u64 b, .int .i64 c, .int .i64 d] from s12)) Try.func30 (by decide +kernel) rfl) ?_
      · refine (may_n a b c d wx).mono ?_
        rintro e w' ⟨rfl, b9⟩
        exact ⟨_, rfl, _, rfl, tab_put rfl hs rfl (congrArg Value.bool Ffk1.out), hS.quiet 1 rfl b9⟩
     ·
      have s13 : ax.tmps.getD 13 undef = .bool true := (hdone 0 _ rfl rfl).2 _ rfl
      exact wpOp_val (v := .bool false) (w' := wx) rfl rfl (by simp [execOp, Act.eval, s13, go_sem]) ⟨_, rfl, tab_put rfl hs rfl rfl, hS.same 2 rfl⟩
     ·
      have s14 : ax.tmps.getD 14 undef = .bool false := (hdone 0 _ rfl rfl).2 _ rfl
      exact wpOp_val (v := .bool false) (w' := wx) rfl rfl (by simp [execOp, Act.eval, s14]) ⟨_, rfl, tab_put rfl hs rfl rfl, hS.same 3 rfl⟩
     ·
      have hg : ax.tmps.getD 15 undef = .bool false := (hdone 0 _ rfl rfl).2 _ rfl
      have hr := hS.rowNi 1 rfl
      exact wpOp_valw (v := .agg #[.int .u64 p, .int .u64 q, .int .i64 r, .int .i64 t]) (w' := wx) rfl (wanted_yes 3 15 false hg (by rw [hs]; omega) rfl rfl rfl rfl) (exec_loadR 60 _ rfl g2 0 (show ax.eval (.tmp 5) = .pointer (some ⟨g2, 0, none⟩) from t5) hr [.int .u64 p, .int .u64 q, .int .i64 r, .int .i64 t] rfl _ Try.underlying60 rfl (by kernel_rfl)) ⟨_, rfl, tab_put rfl hs rfl rfl, hS.same 4 rfl⟩
     ·
      have hg : ax.tmps.getD 15 undef = .bool false := (hdone 1 _ rfl rfl).2 _ rfl
      have s16 : ax.tmps.getD 16 undef = .agg #[.int .u64 p, .int .u64 q, .int .i64 r, .int .i64 t] := (hdone 0 _ rfl rfl).2 _ rfl
      refine wpOp_callw (args := #[.agg #[.int .u64 p, .int .u64 q, .int .i64 r, .int .i64 t]]) rfl (wanted_yes 3 15 false hg (by rw [hs]; omega) rfl rfl rfl rfl) (exec_call rfl rfl rfl (args1 (show ax.eval (.tmp 16) = .agg #[.int .u64 p, .int .u64 q, .int .i64 r, .int .i64 t] from s16)) Try.func30 (by decide +kernel) rfl) ?_
      · refine (may_n p q r t wx).mono ?_
        rintro e w' ⟨rfl, b9⟩
        exact ⟨_, rfl, _, rfl, tab_put rfl hs rfl (congrArg Value.bool Ffk2.out), hS.quiet 5 rfl b9⟩
     ·
      have hg : ax.tmps.getD 15 undef = .bool false := (hdone 1 _ rfl rfl).2 _ rfl
      have s17 : ax.tmps.getD 17 undef = .bool false := (hdone 0 _ rfl rfl).2 _ rfl
      exact wpOp_valw (v := .bool true) (w' := wx) rfl (wanted_yes 3 15 false hg (by rw [hs]; omega) rfl rfl rfl rfl) (by simp [execOp, Act.eval, s17, go_sem]) ⟨_, rfl, tab_put rfl hs rfl rfl, hS.same 6 rfl⟩
     ·
      have s15 : ax.tmps.getD 15 undef = .bool false := (hdone 0 _ rfl rfl).2 _ rfl
      have s18 : ax.tmps.getD 18 undef = .bool true := (hdone 1 _ rfl rfl).2 _ rfl
      exact wpOp_val (v := .bool true) (w' := wx) rfl rfl (by simp [execOp, Act.eval, s15, s18, go_sem]) ⟨_, rfl, tab_put rfl hs rfl rfl, hS.same 7 rfl⟩
   intro a2 w2 fl d2 z2 rest2 R2 hfl hS
   obtain ⟨B2, n2, hBs, hAs, hPs⟩ := hS.finish hfl rfl
   replace d2 := d2.trans d1
   replace z2 := z2.trans z1
   obtain ⟨⟨l_g1_2, b_g1_2⟩, ⟨l_g2_2, b_g2_2⟩, ⟨l_g3_2, b_g3_2⟩, -⟩ := hBs
   replace l_g1_2 : g1 < w1.heap.size := l_g1_2
   replace l_g2_2 : g2 < w1.heap.size := l_g2_2
   replace l_g3_2 : g3 < w1.heap.size := l_g3_2
   have s0_2 := (rest2 0 (not_of (by kernel_rfl))).trans s0_1
   have s4_2 := (rest2 4 (not_of (by kernel_rfl))).trans u_g1
   have s5_2 := (rest2 5 (not_of (by kernel_rfl))).trans u_g2
   have s6_2 := (rest2 6 (not_of (by kernel_rfl))).trans u_g3
   have s7_2 := (rest2 7 (not_of (by kernel_rfl))).trans s7_1
   have s19_2 : a2.tmps.getD 19 undef = .bool true := R2 7 _ rfl
   clear R2 rest2 hS hfl hPs hAs
   clear u_g1 u_g2 u_g3 s0_1 s7_1 b_g1_1 b_g2_1 b_g3_1 d1 z1
   refine wp_cond_true (show a2.tmps.getD 19 undef = .bool true from s19_2) ?_
   refine wp_seq ?_
   refine wp_regx (SX W w2.heap.size [⟨g1, 60, (cR a b c d), none, #[]⟩, ⟨g2, 60, (cR p q r t), none, #[]⟩, ⟨g3, 60, (cR 0 0 0 0), some 1, (cR allR.u.lo allR.u.hi allR.s.lo allR.s.hi)⟩] []) (TabX [fun vx => vx = .agg #[.int .u64 allR.u.lo, .int .u64 allR.u.hi, .int .i64 allR.s.lo, .int .i64 allR.s.hi], fun _ => True, fun vx => vx = .bool false]) (by kernel_rfl) (back_of (by kernel_rfl)) (dst_of (by kernel_rfl)) (in_ofz (by kernel_rfl) z2) (fun fl w1 hfl hw => SX.start' hw B2 hfl rfl ⟨b_g1_2, b_g2_2, b_g3_2, trivial⟩) ?h5 ?_
   case h5 =>
     intro ix ox ax wx fl ho hS hfi clo hsz hrest hdone hund
     have t6 := (hrest 6 (not_of (by kernel_rfl))).trans s6_2
     have hs : ax.tmps.size = 105 := hsz.trans z2
     have hi : ix < 3 := (Array.getElem?_eq_some_iff.1 ho).1
     clear hrest hsz hund
     obtain rfl | rfl | rfl : ix = 0 ∨ ix = 1 ∨ ix = 2 := by omega
     all_goals obtain rfl := Option.some.inj (show some _ = some ox from ho)
     ·
      refine wpOp_call (args := #[]) rfl rfl (exec_call rfl rfl rfl (args0 ) Try.func32 (by decide +kernel) rfl) ?_
      · refine (all_n wx).mono ?_
        rintro e w' ⟨rfl, b9⟩
        exact ⟨_, rfl, _, rfl, tab_put rfl hs rfl rfl, hS.quiet 0 rfl b9⟩
     ·
      have s20 : ax.tmps.getD 20 undef = .agg #[.int .u64 allR.u.lo, .int .u64 allR.u.hi, .int .i64 allR.s.lo, .int .i64 allR.s.hi] := (hdone 0 _ rfl rfl).2 _ rfl
      have hr := hS.rowFi 2 rfl hfi
      exact wpOp_skp (w' := wx.setRow g3 #[.int .u64 allR.u.lo, .int .u64 allR.u.hi, .int .i64 allR.s.lo, .int .i64 allR.s.hi]) rfl rfl (exec_storeR 60 _ _ rfl g3 #[.int .u64 allR.u.lo, .int .u64 allR.u.hi, .int .i64 allR.s.lo, .int .i64 allR.s.hi] (show ax.eval (.tmp 6) = .pointer (some ⟨g3, 0, none⟩) from t6) (show ax.eval (.tmp 20) = .agg #[.int .u64 allR.u.lo, .int .u64 allR.u.hi, .int .i64 allR.s.lo, .int .i64 allR.s.hi] from s20) hr (by kernel_rfl) rfl (by simp [Value.oneCell'])) ⟨undef, rfl, trivial, hS.storeBi 1 2 rfl q_g3 rfl ⟨(show g1 ≠ g3 by omega), (show g2 ≠ g3 by omega), trivial⟩ (stored_setRow wx g3 _ _ _ hr)⟩
     ·
      exact wpOp_val (v := .bool false) (w' := wx) rfl rfl (by simp [execOp, Act.eval]) ⟨_, rfl, tab_put rfl hs rfl rfl, hS.same 2 rfl⟩
   intro a3 w3 fl d3 z3 rest3 R3 hfl hS
   obtain ⟨B3, n3, hBs, hAs, hPs⟩ := hS.finish hfl rfl
   replace d3 := d3.trans d2
   replace z3 := z3.trans z2
   obtain ⟨⟨-, b_g1_3⟩, ⟨-, b_g2_3⟩, ⟨-, b_g3_3⟩, -⟩ := hBs
   have s0_3 := (rest3 0 (not_of (by kernel_rfl))).trans s0_2
   have s4_3 := (rest3 4 (not_of (by kernel_rfl))).trans s4_2
   have s5_3 := (rest3 5 (not_of (by kernel_rfl))).trans s5_2
   have s6_3 := (rest3 6 (not_of (by kernel_rfl))).trans s6_2
   have s7_3 : a3.tmps.getD 7 undef = .bool false := R3 2 _ rfl
   clear R3 rest3 hS hfl hPs hAs
   clear s0_2 s4_2 s5_2 s6_2 s7_2 s19_2 b_g1_2 b_g2_2 b_g3_2 d2 z2
   refine wp_ret ?_
   try simp only [Exit.inBlock, Exit.then]
   refine bodyPost_ret (res_ct (fn := Try.f24) rfl s6_3 (load_row 60 b_g3_3 Try.underlying60 rfl (by kernel_rfl)) s7_3) d3 ?_
   have HE : Value.tuple #[.agg #[.int .u64 allR.u.lo, .int .u64 allR.u.hi, .int .i64 allR.s.lo, .int .i64 allR.s.hi], .bool false] = .tuple #[Rg.val (Rg.giv cc ⟨⟨a, b⟩, ⟨c, d⟩⟩ ⟨⟨p, q⟩, ⟨r, t⟩⟩), .bool (Rg.givB cc ⟨⟨a, b⟩, ⟨c, d⟩⟩ ⟨⟨p, q⟩, ⟨r, t⟩⟩)] := by unfold Rg.giv Rg.givB; rw [Ffk1.out, Ffk2.out]; rfl
   exact ⟨retV HE, B3⟩
  have Ffk2 := Lib.hid fk2; clear fk2
  refine wp_regx (SX W w1.heap.size [⟨g1, 60, (cR a b c d), none, #[]⟩, ⟨g2, 60, (cR p q r t), none, #[]⟩, ⟨g3, 60, (cR 0 0 0 0), none, #[]⟩] []) (TabX [fun vx => vx = .agg #[.int .u64 a, .int .u64 b, .int .i64 c, .int .i64 d], fun vx => vx = .bool true, fun vx => vx = .bool false, fun vx => vx = .bool false, fun vx => vx = .agg #[.int .u64 p, .int .u64 q, .int .i64 r, .int .i64 t], fun vx => vx = .bool true, fun vx => vx = .bool false, fun vx => vx = .bool false]) (by kernel_rfl) (back_of (by kernel_rfl)) (dst_of (by kernel_rfl)) (in_ofz (by kernel_rfl) z1) (fun fl w1 hfl hw => SX.start' hw B1 hfl rfl ⟨b_g1_1, b_g2_1, b_g3_1, trivial⟩) ?h6 ?_
  case h6 =>
    intro ix ox ax wx fl ho hS hfi clo hsz hrest hdone hund
    have t4 := (hrest 4 (not_of (by kernel_rfl))).trans u_g1
    have t5 := (hrest 5 (not_of (by kernel_rfl))).trans u_g2
    have hs : ax.tmps.size = 105 := hsz.trans z1
    have hi : ix < 8 := (Array.getElem?_eq_some_iff.1 ho).1
    clear hrest hsz hund
    obtain rfl | rfl | rfl | rfl | rfl | rfl | rfl | rfl : ix = 0 ∨ ix = 1 ∨ ix = 2 ∨ ix = 3 ∨ ix = 4 ∨ ix = 5 ∨ ix = 6 ∨ ix = 7 := by omega
    all_goals obtain rfl := Option.some.inj (show some _ = some ox from ho)
    ·
     have hr := hS.rowNi 0 rfl
     exact wpOp_val (v := .agg #[.int .u64 a, .int .u64 b, .int .i64 c, .int .i64 d]) (w' := wx) rfl rfl (exec_loadR 60 _ rfl g1 0 (show ax.eval (.tmp 4) = .pointer (some ⟨g1, 0, none⟩) from t4) hr [.int .u64 a, .int .u64 b, .int .i64 c, .int .i64 d] rfl _ Try.underlying60 rfl (by kernel_rfl)) ⟨_, rfl, tab_put rfl hs rfl rfl, hS.same 0 rfl⟩
    ·
     have s12 : ax.tmps.getD 12 undef = .agg #[.int .u64 a, .int .u64 b, .int .i64 c, .int .i64 d] := (hdone 0 _ rfl rfl).2 _ rfl
     refine wpOp_call (args := #[.agg #[.int .u64 a, .int .u64 b, .int .i64 c, .int .i64 d]]) rfl rfl (exec_call rfl rfl rfl (args1 (show ax.eval (.tmp 12) = .agg #[.int .u64 a, .int .u64 b, .int .i64 c, .int .i64 d] from s12)) Try.func30 (by decide +kernel) rfl) ?_
     · refine (may_n a b c d wx).mono ?_
       rintro e w' ⟨rfl, b9⟩
       exact ⟨_, rfl, _, rfl, tab_put rfl hs rfl (congrArg Value.bool Ffk1.out), hS.quiet 1 rfl b9⟩
    ·
     have s13 : ax.tmps.getD 13 undef = .bool true := (hdone 0 _ rfl rfl).2 _ rfl
     exact wpOp_val (v := .bool false) (w' := wx) rfl rfl (by simp [execOp, Act.eval, s13, go_sem]) ⟨_, rfl, tab_put rfl hs rfl rfl, hS.same 2 rfl⟩
    ·
     have s14 : ax.tmps.getD 14 undef = .bool false := (hdone 0 _ rfl rfl).2 _ rfl
     exact wpOp_val (v := .bool false) (w' := wx) rfl rfl (by simp [execOp, Act.eval, s14]) ⟨_, rfl, tab_put rfl hs rfl rfl, hS.same 3 rfl⟩
    ·
     have hg : ax.tmps.getD 15 undef = .bool false := (hdone 0 _ rfl rfl).2 _ rfl
     have hr := hS.rowNi 1 rfl
     exact wpOp_valw (v := .agg #[.int .u64 p, .int .u64 q, .int .i64 r, .int .i64 t]) (w' := wx) rfl (wanted_yes 3 15 false hg (by rw [hs]; omega) rfl rfl rfl rfl) (exec_loadR 60 _ rfl g2 0 (show ax.eval (.tmp 5) = .pointer (some ⟨g2, 0, none⟩) from t5) hr [.int .u64 p, .int .u64 q, .int .i64 r, .int .i64 t] rfl _ Try.underlying60 rfl (by kernel_rfl)) ⟨_, rfl, tab_put rfl hs rfl rfl, hS.same 4 rfl⟩
    ·
     have hg : ax.tmps.getD 15 undef = .bool false := (hdone 1 _ rfl rfl).2 _ rfl
     have s16 : ax.tmps.getD 16 undef = .agg #[.int .u64 p, .int .u64 q, .int .i64 r, .int .i64 t] := (hdone 0 _ rfl rfl).2 _ rfl
     refine wpOp_callw (args := #[.agg #[.int .u64 p, .int .u64 q, .int .i64 r, .int .i64 t]]) rfl (wanted_yes 3 15 false hg (by rw [hs]; omega) rfl rfl rfl rfl) (exec_call rfl rfl rfl (args1 (show ax.eval (.tmp 16) = .agg #[.int .u64 p, .int .u64 q, .int .i64 r, .int .i64 t] from s16)) Try.func30 (by decide +kernel) rfl) ?_
     · refine (may_n p q r t wx).mono ?_
       rintro e w' ⟨rfl, b9⟩
       exact ⟨_, rfl, _, rfl, tab_put rfl hs rfl (congrArg Value.bool Ffk2.out), hS.quiet 5 rfl b9⟩
    ·
     have hg : ax.tmps.getD 15 undef = .bool false := (hdone 1 _ rfl rfl).2 _ rfl
     have s17 : ax.tmps.getD 17 undef = .bool true := (hdone 0 _ rfl rfl).2 _ rfl
     exact wpOp_valw (v := .bool false) (w' := wx) rfl (wanted_yes 3 15 false hg (by rw [hs]; omega) rfl rfl rfl rfl) (by simp [execOp, Act.eval, s17, go_sem]) ⟨_, rfl, tab_put rfl hs rfl rfl, hS.same 6 rfl⟩
    ·
     have s15 : ax.tmps.getD 15 undef = .bool false := (hdone 0 _ rfl rfl).2 _ rfl
     have s18 : ax.tmps.getD 18 undef = .bool false := (hdone 1 _ rfl rfl).2 _ rfl
     exact wpOp_val (v := .bool false) (w' := wx) rfl rfl (by simp [execOp, Act.eval, s15, s18, go_sem]) ⟨_, rfl, tab_put rfl hs rfl rfl, hS.same 7 rfl⟩
  intro a2 w2 fl d2 z2 rest2 R2 hfl hS
  obtain ⟨B2, n2, hBs, hAs, hPs⟩ := hS.finish hfl rfl
  replace d2 := d2.trans d1
  replace z2 := z2.trans z1
  obtain ⟨⟨l_g1_2, b_g1_2⟩, ⟨l_g2_2, b_g2_2⟩, ⟨l_g3_2, b_g3_2⟩, -⟩ := hBs
  replace l_g1_2 : g1 < w1.heap.size := l_g1_2
  replace l_g2_2 : g2 < w1.heap.size := l_g2_2
  replace l_g3_2 : g3 < w1.heap.size := l_g3_2
  have s0_2 := (rest2 0 (not_of (by kernel_rfl))).trans s0_1
  have s4_2 := (rest2 4 (not_of (by kernel_rfl))).trans u_g1
  have s5_2 := (rest2 5 (not_of (by kernel_rfl))).trans u_g2
  have s6_2 := (rest2 6 (not_of (by kernel_rfl))).trans u_g3
  have s7_2 := (rest2 7 (not_of (by kernel_rfl))).trans s7_1
  have s19_2 : a2.tmps.getD 19 undef = .bool false := R2 7 _ rfl
  clear R2 rest2 hS hfl hPs hAs
  clear u_g1 u_g2 u_g3 s0_1 s7_1 b_g1_1 b_g2_1 b_g3_1 d1 z1
  refine wp_cond_false (show a2.tmps.getD 19 undef = .bool false from s19_2) ?_
  refine wp_skip ?_
  refine wp_seq ?_
  refine wp_regx (SX W w2.heap.size [⟨g1, 60, (cR a b c d), none, #[]⟩, ⟨g2, 60, (cR p q r t), none, #[]⟩, ⟨g3, 60, (cR 0 0 0 0), none, #[]⟩] [⟨4, 8, 95, (cU 0 0), some 6, (cU a b)⟩, ⟨5, 9, 99, (cS 0 0), some 7, (cS c d)⟩]) (TabX [fun vx => vx = .agg #[.int .u64 a, .int .u64 b, .int .i64 c, .int .i64 d], fun vx => vx = .agg #[.int .u64 a, .int .u64 b], fun vx => vx = .agg #[.int .u64 a, .int .u64 b, .int .i64 c, .int .i64 d], fun vx => vx = .agg #[.int .i64 c, .int .i64 d], fun _ => True, fun _ => True, fun _ => True, fun _ => True]) (by kernel_rfl) (back_of (by kernel_rfl)) (dst_of (by kernel_rfl)) (in_ofz (by kernel_rfl) z2) (fun fl w1 hfl hw => SX.start' hw B2 hfl rfl ⟨b_g1_2, b_g2_2, b_g3_2, trivial⟩) ?h7 ?_
  case h7 =>
    intro ix ox ax wx fl ho hS hfi clo hsz hrest hdone hund
    have t4 := (hrest 4 (not_of (by kernel_rfl))).trans s4_2
    have hs : ax.tmps.size = 105 := hsz.trans z2
    have hi : ix < 8 := (Array.getElem?_eq_some_iff.1 ho).1
    clear hrest hsz hund
    obtain rfl | rfl | rfl | rfl | rfl | rfl | rfl | rfl : ix = 0 ∨ ix = 1 ∨ ix = 2 ∨ ix = 3 ∨ ix = 4 ∨ ix = 5 ∨ ix = 6 ∨ ix = 7 := by omega
    all_goals obtain rfl := Option.some.inj (show some _ = some ox from ho)
    ·
     have hr := hS.rowNi 0 rfl
     exact wpOp_val (v := .agg #[.int .u64 a, .int .u64 b, .int .i64 c, .int .i64 d]) (w' := wx) rfl rfl (exec_loadR 60 _ rfl g1 0 (show ax.eval (.tmp 4) = .pointer (some ⟨g1, 0, none⟩) from t4) hr [.int .u64 a, .int .u64 b, .int .i64 c, .int .i64 d] rfl _ Try.underlying60 rfl (by kernel_rfl)) ⟨_, rfl, tab_put rfl hs rfl rfl, hS.same 0 rfl⟩
    ·
     have s21 : ax.tmps.getD 21 undef = .agg #[.int .u64 a, .int .u64 b, .int .i64 c, .int .i64 d] := (hdone 0 _ rfl rfl).2 _ rfl
     refine wpOp_call (args := #[.agg #[.int .u64 a, .int .u64 b, .int .i64 c, .int .i64 d]]) rfl rfl (exec_call rfl rfl rfl (args1 (show ax.eval (.tmp 21) = .agg #[.int .u64 a, .int .u64 b, .int .i64 c, .int .i64 d] from s21)) Try.func61 (by decide +kernel) rfl) ?_
     · refine (unsigned_n a b c d wx).mono ?_
       rintro e w' ⟨rfl, b9⟩
       exact ⟨_, rfl, _, rfl, tab_put rfl hs rfl rfl, hS.quiet 1 rfl b9⟩
    ·
     have hr := hS.rowNi 0 rfl
     exact wpOp_val (v := .agg #[.int .u64 a, .int .u64 b, .int .i64 c, .int .i64 d]) (w' := wx) rfl rfl (exec_loadR 60 _ rfl g1 0 (show ax.eval (.tmp 4) = .pointer (some ⟨g1, 0, none⟩) from t4) hr [.int .u64 a, .int .u64 b, .int .i64 c, .int .i64 d] rfl _ Try.underlying60 rfl (by kernel_rfl)) ⟨_, rfl, tab_put rfl hs rfl rfl, hS.same 2 rfl⟩
    ·
     have s23 : ax.tmps.getD 23 undef = .agg #[.int .u64 a, .int .u64 b, .int .i64 c, .int .i64 d] := (hdone 0 _ rfl rfl).2 _ rfl
     refine wpOp_call (args := #[.agg #[.int .u64 a, .int .u64 b, .int .i64 c, .int .i64 d]]) rfl rfl (exec_call rfl rfl rfl (args1 (show ax.eval (.tmp 23) = .agg #[.int .u64 a, .int .u64 b, .int .i64 c, .int .i64 d] from s23)) Try.func63 (by decide +kernel) rfl) ?_
     · refine (signed_n a b c d wx).mono ?_
       rintro e w' ⟨rfl, b9⟩
       exact ⟨_, rfl, _, rfl, tab_put rfl hs rfl rfl, hS.quiet 3 rfl b9⟩
    ·
     refine wpOp_val (v := .pointer (some ⟨wx.heap.size, 0, none⟩)) (w' := wx.alloc (.cells #[.int .u64 0, .int .u64 0] 95)) rfl rfl ?_ ⟨_, rfl, trivial, hS.alloc 4 8 95 #[.int .u64 0, .int .u64 0] [] [⟨5, 9, 99, (cS 0 0), some 7, (cS c d)⟩] (some 6) #[.int .u64 a, .int .u64 b] rfl rfl rfl (by rw [hs]; omega) (not_yet clo hfi (by kernel_rfl))⟩
     · simp [execOp, Act.eval, go_sem]
    ·
     refine wpOp_val (v := .pointer (some ⟨wx.heap.size, 0, none⟩)) (w' := wx.alloc (.cells #[.int .i64 0, .int .i64 0] 99)) rfl rfl ?_ ⟨_, rfl, trivial, hS.alloc 5 9 99 #[.int .i64 0, .int .i64 0] [⟨4, 8, 95, (cU 0 0), some 6, (cU a b)⟩] [] (some 7) #[.int .i64 c, .int .i64 d] rfl rfl rfl (by rw [hs]; omega) (not_yet clo hfi (by kernel_rfl))⟩
     · simp [execOp, Act.eval, go_sem]
    ·
     have hd8 := (hdone 0 _ rfl rfl).1
     obtain ⟨g4, s8, n8, r8⟩ := SX.rowA hS [] [⟨5, 9, 99, (cS 0 0), some 7, (cS c d)⟩] 4 8 95 _ _ 6 rfl hd8 hfi
     have s8 : ax.tmps.getD 8 undef = .pointer (some ⟨g4, 0, none⟩) := s8
     have s22 : ax.tmps.getD 22 undef = .agg #[.int .u64 a, .int .u64 b] := (hdone 1 _ rfl rfl).2 _ rfl
     have hr : wx.heap[g4]? = some (.cells #[.int .u64 0, .int .u64 0] 95 (0, 0)) := r8
     exact wpOp_skp (w' := wx.setRow g4 #[.int .u64 a, .int .u64 b]) rfl rfl (exec_storeR 95 _ _ rfl g4 #[.int .u64 a, .int .u64 b] (show ax.eval (.tmp 8) = .pointer (some ⟨g4, 0, none⟩) from s8) (show ax.eval (.tmp 22) = .agg #[.int .u64 a, .int .u64 b] from s22) hr (by kernel_rfl) rfl (by simp [Value.oneCell'])) ⟨undef, rfl, trivial, hS.storeA 6 4 8 95 #[.int .u64 0, .int .u64 0] #[.int .u64 a, .int .u64 b] [] [⟨5, 9, 99, (cS 0 0), some 7, (cS c d)⟩] rfl B2.size hd8 g4 s8 (by decide) rfl (stored_setRow wx g4 _ _ _ hr)⟩
    ·
     have hd9 := (hdone 0 _ rfl rfl).1
     obtain ⟨g5, s9, n9, r9⟩ := SX.rowA hS [⟨4, 8, 95, (cU 0 0), some 6, (cU a b)⟩] [] 5 9 99 _ _ 7 rfl hd9 hfi
     have s9 : ax.tmps.getD 9 undef = .pointer (some ⟨g5, 0, none⟩) := s9
     have s24 : ax.tmps.getD 24 undef = .agg #[.int .i64 c, .int .i64 d] := (hdone 1 _ rfl rfl).2 _ rfl
     have hr : wx.heap[g5]? = some (.cells #[.int .i64 0, .int .i64 0] 99 (0, 0)) := r9
     exact wpOp_skp (w' := wx.setRow g5 #[.int .i64 c, .int .i64 d]) rfl rfl (exec_storeR 99 _ _ rfl g5 #[.int .i64 c, .int .i64 d] (show ax.eval (.tmp 9) = .pointer (some ⟨g5, 0, none⟩) from s9) (show ax.eval (.tmp 24) = .agg #[.int .i64 c, .int .i64 d] from s24) hr (by kernel_rfl) rfl (by simp [Value.oneCell'])) ⟨undef, rfl, trivial, hS.storeA 7 5 9 99 #[.int .i64 0, .int .i64 0] #[.int .i64 c, .int .i64 d] [⟨4, 8, 95, (cU 0 0), some 6, (cU a b)⟩] [] rfl B2.size hd9 g5 s9 (by decide) rfl (stored_setRow wx g5 _ _ _ hr)⟩
  intro a3 w3 fl d3 z3 rest3 R3 hfl hS
  obtain ⟨B3, n3, hBs, hAs, hPs⟩ := hS.finish hfl rfl
  replace d3 := d3.trans d2
  replace z3 := z3.trans z2
  obtain ⟨⟨-, b_g1_3⟩, ⟨-, b_g2_3⟩, ⟨-, b_g3_3⟩, -⟩ := hBs
  obtain ⟨⟨g4, u_g4, q_g4, b_g4_3⟩, ⟨g5, u_g5, q_g5, b_g5_3⟩, -⟩ := hAs
  replace u_g4 : a3.tmps.getD 8 undef = .pointer (some ⟨g4, 0, none⟩) := u_g4
  have m_g4 : w2.heap.size ≤ g4 := q_g4
  replace q_g4 : W.heap.size ≤ g4 := Nat.le_trans B2.size q_g4
  replace u_g5 : a3.tmps.getD 9 undef = .pointer (some ⟨g5, 0, none⟩) := u_g5
  have m_g5 : w2.heap.size ≤ g5 := q_g5
  replace q_g5 : W.heap.size ≤ g5 := Nat.le_trans B2.size q_g5
  simp only [List.pairwise_cons, List.mem_cons, List.not_mem_nil, or_false, forall_eq_or_imp, forall_eq] at hPs
  have ne_g4_g5 : g4 ≠ g5 := by
    have hn : slotOf a3 8 ≠ slotOf a3 9 := hPs.1
    intro e; subst e; exact hn (Eq.trans u_g4 u_g5.symm)
  have s0_3 := (rest3 0 (not_of (by kernel_rfl))).trans s0_2
  have s4_3 := (rest3 4 (not_of (by kernel_rfl))).trans s4_2
  have s5_3 := (rest3 5 (not_of (by kernel_rfl))).trans s5_2
  have s6_3 := (rest3 6 (not_of (by kernel_rfl))).trans s6_2
  have s7_3 := (rest3 7 (not_of (by kernel_rfl))).trans s7_2
  clear R3 rest3 hS hfl hPs
  clear s0_2 s4_2 s5_2 s6_2 s7_2 s19_2 b_g1_2 b_g2_2 b_g3_2 d2 z2
  refine wp_seq ?_
  refine wp_seq ?_
  refine wp_regx (SX W w3.heap.size [⟨g1, 60, (cR a b c d), none, #[]⟩, ⟨g2, 60, (cR p q r t), none, #[]⟩, ⟨g3, 60, (cR 0 0 0 0), none, #[]⟩, ⟨g4, 95, (cU a b), none, #[]⟩, ⟨g5, 99, (cS c d), none, #[]⟩] []) (TabX [fun vx => vx = .int .i8 cc]) (by kernel_rfl) (back_of (by kernel_rfl)) (dst_of (by kernel_rfl)) (in_ofz (by kernel_rfl) z3) (fun fl w1 hfl hw => SX.start' hw B3 hfl rfl ⟨b_g1_3, b_g2_3, b_g3_3, b_g4_3, b_g5_3, trivial⟩) ?h8 ?_
  case h8 =>
    intro ix ox ax wx fl ho hS hfi clo hsz hrest hdone hund
    have t0 := (hrest 0 (not_of (by kernel_rfl))).trans s0_3
    have hs : ax.tmps.size = 105 := hsz.trans z3
    have hi : ix < 1 := (Array.getElem?_eq_some_iff.1 ho).1
    clear hrest hsz hund
    obtain rfl : ix = 0 := by omega
    all_goals obtain rfl := Option.some.inj (show some _ = some ox from ho)
    ·
     exact wpOp_val (v := .int .i8 cc) (w' := wx) rfl rfl (by simp [execOp, Act.eval, t0]) ⟨_, rfl, tab_put rfl hs rfl rfl, hS.same 0 rfl⟩
  intro a4 w4 fl d4 z4 rest4 R4 hfl hS
  obtain ⟨B4, n4, hBs, hAs, hPs⟩ := hS.finish hfl rfl
  replace d4 := d4.trans d3
  replace z4 := z4.trans z3
  obtain ⟨⟨-, b_g1_4⟩, ⟨-, b_g2_4⟩, ⟨-, b_g3_4⟩, ⟨l_g4_4, b_g4_4⟩, ⟨l_g5_4, b_g5_4⟩, -⟩ := hBs
  replace l_g4_4 : g4 < w3.heap.size := l_g4_4
  replace l_g5_4 : g5 < w3.heap.size := l_g5_4
  have s4_4 := (rest4 4 (not_of (by kernel_rfl))).trans s4_3
  have s5_4 := (rest4 5 (not_of (by kernel_rfl))).trans s5_3
  have s6_4 := (rest4 6 (not_of (by kernel_rfl))).trans s6_3
  have s7_4 := (rest4 7 (not_of (by kernel_rfl))).trans s7_3
  have s8_4 := (rest4 8 (not_of (by kernel_rfl))).trans u_g4
  have s9_4 := (rest4 9 (not_of (by kernel_rfl))).trans u_g5
  have s25_4 : a4.tmps.getD 25 undef = .int .i8 cc := R4 0 _ rfl
  clear R4 rest4 hS hfl hPs hAs
  clear u_g4 u_g5 s0_3 s4_3 s5_3 s6_3 s7_3 b_g1_3 b_g2_3 b_g3_3 b_g4_3 b_g5_3 d3 z3
  refine wp_block ?_
  refine wp_seq ?_
  cases fk3 : cc == 0
  case true =>
   have Ffk3 := Lib.hid fk3; clear fk3
   refine wp_regx (SX W w4.heap.size [⟨g1, 60, (cR a b c d), none, #[]⟩, ⟨g2, 60, (cR p q r t), none, #[]⟩, ⟨g3, 60, (cR 0 0 0 0), none, #[]⟩, ⟨g4, 95, (cU a b), none, #[]⟩, ⟨g5, 99, (cS c d), none, #[]⟩] []) (TabX [fun vx => vx = .bool true, fun vx => vx = .bool true]) (by kernel_rfl) (back_of (by kernel_rfl)) (dst_of (by kernel_rfl)) (in_ofz (by kernel_rfl) z4) (fun fl w1 hfl hw => SX.start' hw B4 hfl rfl ⟨b_g1_4, b_g2_4, b_g3_4, b_g4_4, b_g5_4, trivial⟩) ?h9 ?_
   case h9 =>
     intro ix ox ax wx fl ho hS hfi clo hsz hrest hdone hund
     have t25 := (hrest 25 (not_of (by kernel_rfl))).trans s25_4
     have hs : ax.tmps.size = 105 := hsz.trans z4
     have hi : ix < 2 := (Array.getElem?_eq_some_iff.1 ho).1
     clear hrest hsz hund
     obtain rfl | rfl : ix = 0 ∨ ix = 1 := by omega
     all_goals obtain rfl := Option.some.inj (show some _ = some ox from ho)
     ·
      exact wpOp_val (v := .bool (cc == 0)) (w' := wx) rfl rfl (by (simp [execOp, Act.eval, t25, go_sem]; try (simp only [IntKind.wrap_i64, wrap64]))) ⟨_, rfl, tab_put rfl hs rfl (congrArg Value.bool Ffk3.out), hS.same 0 rfl⟩
     ·
      have s28 : ax.tmps.getD 28 undef = .bool true := (hdone 0 _ rfl rfl).2 _ rfl
      exact wpOp_val (v := .bool true) (w' := wx) rfl rfl (by simp [execOp, Act.eval, s28]) ⟨_, rfl, tab_put rfl hs rfl rfl, hS.same 1 rfl⟩
   intro a5 w5 fl d5 z5 rest5 R5 hfl hS
   obtain ⟨B5, n5, hBs, hAs, hPs⟩ := hS.finish hfl rfl
   replace d5 := d5.trans d4
   replace z5 := z5.trans z4
   obtain ⟨⟨-, b_g1_5⟩, ⟨-, b_g2_5⟩, ⟨-, b_g3_5⟩, ⟨-, b_g4_5⟩, ⟨-, b_g5_5⟩, -⟩ := hBs
   have s4_5 := (rest5 4 (not_of (by kernel_rfl))).trans s4_4
   have s5_5 := (rest5 5 (not_of (by kernel_rfl))).trans s5_4
   have s6_5 := (rest5 6 (not_of (by kernel_rfl))).trans s6_4
   have s7_5 := (rest5 7 (not_of (by kernel_rfl))).trans s7_4
   have s8_5 := (rest5 8 (not_of (by kernel_rfl))).trans s8_4
   have s9_5 := (rest5 9 (not_of (by kernel_rfl))).trans s9_4
   have s25_5 := (rest5 25 (not_of (by kernel_rfl))).trans s25_4
   have s27_5 : a5.tmps.getD 27 undef = .bool true := R5 1 _ rfl
   clear R5 rest5 hS hfl hPs hAs
   clear s4_4 s5_4 s6_4 s7_4 s8_4 s9_4 s25_4 b_g1_4 b_g2_4 b_g3_4 b_g4_4 b_g5_4 d4 z4
   refine wp_cond_true (show a5.tmps.getD 27 undef = .bool true from s27_5) ?_
   refine wp_seq ?_
   refine wp_regx (SX W w5.heap.size [⟨g1, 60, (cR a b c d), none, #[]⟩, ⟨g2, 60, (cR p q r t), none, #[]⟩, ⟨g3, 60, (cR 0 0 0 0), some 5, (cR ((Rg.meetR ⟨⟨a, b⟩, ⟨c, d⟩⟩ ⟨⟨p, q⟩, ⟨r, t⟩⟩).u.lo) ((Rg.meetR ⟨⟨a, b⟩, ⟨c, d⟩⟩ ⟨⟨p, q⟩, ⟨r, t⟩⟩).u.hi) ((Rg.meetR ⟨⟨a, b⟩, ⟨c, d⟩⟩ ⟨⟨p, q⟩, ⟨r, t⟩⟩).s.lo) ((Rg.meetR ⟨⟨a, b⟩, ⟨c, d⟩⟩ ⟨⟨p, q⟩, ⟨r, t⟩⟩).s.hi))⟩, ⟨g4, 95, (cU a b), none, #[]⟩, ⟨g5, 99, (cS c d), none, #[]⟩] []) (TabX [fun vx => vx = .agg #[.int .u64 a, .int .u64 b, .int .i64 c, .int .i64 d], fun vx => vx = .agg #[.int .u64 p, .int .u64 q, .int .i64 r, .int .i64 t], fun vx => vx = .tuple #[.agg #[.int .u64 ((Rg.meetR ⟨⟨a, b⟩, ⟨c, d⟩⟩ ⟨⟨p, q⟩, ⟨r, t⟩⟩).u.lo), .int .u64 ((Rg.meetR ⟨⟨a, b⟩, ⟨c, d⟩⟩ ⟨⟨p, q⟩, ⟨r, t⟩⟩).u.hi), .int .i64 ((Rg.meetR ⟨⟨a, b⟩, ⟨c, d⟩⟩ ⟨⟨p, q⟩, ⟨r, t⟩⟩).s.lo), .int .i64 ((Rg.meetR ⟨⟨a, b⟩, ⟨c, d⟩⟩ ⟨⟨p, q⟩, ⟨r, t⟩⟩).s.hi)], .bool (Rg.meetB ⟨⟨a, b⟩, ⟨c, d⟩⟩ ⟨⟨p, q⟩, ⟨r, t⟩⟩)], fun vx => vx = .agg #[.int .u64 ((Rg.meetR ⟨⟨a, b⟩, ⟨c, d⟩⟩ ⟨⟨p, q⟩, ⟨r, t⟩⟩).u.lo), .int .u64 ((Rg.meetR ⟨⟨a, b⟩, ⟨c, d⟩⟩ ⟨⟨p, q⟩, ⟨r, t⟩⟩).u.hi), .int .i64 ((Rg.meetR ⟨⟨a, b⟩, ⟨c, d⟩⟩ ⟨⟨p, q⟩, ⟨r, t⟩⟩).s.lo), .int .i64 ((Rg.meetR ⟨⟨a, b⟩, ⟨c, d⟩⟩ ⟨⟨p, q⟩, ⟨r, t⟩⟩).s.hi)], fun vx => vx = .bool (Rg.meetB ⟨⟨a, b⟩, ⟨c, d⟩⟩ ⟨⟨p, q⟩, ⟨r, t⟩⟩), fun _ => True, fun vx => vx = .bool (Rg.meetB ⟨⟨a, b⟩, ⟨c, d⟩⟩ ⟨⟨p, q⟩, ⟨r, t⟩⟩)]) (by kernel_rfl) (back_of (by kernel_rfl)) (dst_of (by kernel_rfl)) (in_ofz (by kernel_rfl) z5) (fun fl w1 hfl hw => SX.start' hw B5 hfl rfl ⟨b_g1_5, b_g2_5, b_g3_5, b_g4_5, b_g5_5, trivial⟩) ?h10 ?_
   case h10 =>
     intro ix ox ax wx fl ho hS hfi clo hsz hrest hdone hund
     have t4 := (hrest 4 (not_of (by kernel_rfl))).trans s4_5
     have t5 := (hrest 5 (not_of (by kernel_rfl))).trans s5_5
     have t6 := (hrest 6 (not_of (by kernel_rfl))).trans s6_5
     have hs : ax.tmps.size = 105 := hsz.trans z5
     have hi : ix < 7 := (Array.getElem?_eq_some_iff.1 ho).1
     clear hrest hsz hund
     obtain rfl | rfl | rfl | rfl | rfl | rfl | rfl : ix = 0 ∨ ix = 1 ∨ ix = 2 ∨ ix = 3 ∨ ix = 4 ∨ ix = 5 ∨ ix = 6 := by omega
     all_goals obtain rfl := Option.some.inj (show some _ = some ox from ho)
     ·
      have hr := hS.rowNi 0 rfl
      exact wpOp_val (v := .agg #[.int .u64 a, .int .u64 b, .int .i64 c, .int .i64 d]) (w' := wx) rfl rfl (exec_loadR 60 _ rfl g1 0 (show ax.eval (.tmp 4) = .pointer (some ⟨g1, 0, none⟩) from t4) hr [.int .u64 a, .int .u64 b, .int .i64 c, .int .i64 d] rfl _ Try.underlying60 rfl (by kernel_rfl)) ⟨_, rfl, tab_put rfl hs rfl rfl, hS.same 0 rfl⟩
     ·
      have hr := hS.rowNi 1 rfl
      exact wpOp_val (v := .agg #[.int .u64 p, .int .u64 q, .int .i64 r, .int .i64 t]) (w' := wx) rfl rfl (exec_loadR 60 _ rfl g2 0 (show ax.eval (.tmp 5) = .pointer (some ⟨g2, 0, none⟩) from t5) hr [.int .u64 p, .int .u64 q, .int .i64 r, .int .i64 t] rfl _ Try.underlying60 rfl (by kernel_rfl)) ⟨_, rfl, tab_put rfl hs rfl rfl, hS.same 1 rfl⟩
     ·
      have s29 : ax.tmps.getD 29 undef = .agg #[.int .u64 a, .int .u64 b, .int .i64 c, .int .i64 d] := (hdone 0 _ rfl rfl).2 _ rfl
      have s30 : ax.tmps.getD 30 undef = .agg #[.int .u64 p, .int .u64 q, .int .i64 r, .int .i64 t] := (hdone 1 _ rfl rfl).2 _ rfl
      refine wpOp_call (args := #[.agg #[.int .u64 a, .int .u64 b, .int .i64 c, .int .i64 d], .agg #[.int .u64 p, .int .u64 q, .int .i64 r, .int .i64 t]]) rfl rfl (exec_call rfl rfl rfl (args2 (show ax.eval (.tmp 29) = .agg #[.int .u64 a, .int .u64 b, .int .i64 c, .int .i64 d] from s29) (show ax.eval (.tmp 30) = .agg #[.int .u64 p, .int .u64 q, .int .i64 r, .int .i64 t] from s30)) Try.func22 (by decide +kernel) rfl) ?_
      · refine (meet_n a b c d p q r t wx HA.out HB.out).mono ?_
        rintro e w' ⟨rfl, b9⟩
        exact ⟨_, rfl, _, rfl, tab_put rfl hs rfl rfl, hS.quiet 2 rfl b9⟩
     ·
      have s31 : ax.tmps.getD 31 undef = .tuple #[.agg #[.int .u64 ((Rg.meetR ⟨⟨a, b⟩, ⟨c, d⟩⟩ ⟨⟨p, q⟩, ⟨r, t⟩⟩).u.lo), .int .u64 ((Rg.meetR ⟨⟨a, b⟩, ⟨c, d⟩⟩ ⟨⟨p, q⟩, ⟨r, t⟩⟩).u.hi), .int .i64 ((Rg.meetR ⟨⟨a, b⟩, ⟨c, d⟩⟩ ⟨⟨p, q⟩, ⟨r, t⟩⟩).s.lo), .int .i64 ((Rg.meetR ⟨⟨a, b⟩, ⟨c, d⟩⟩ ⟨⟨p, q⟩, ⟨r, t⟩⟩).s.hi)], .bool (Rg.meetB ⟨⟨a, b⟩, ⟨c, d⟩⟩ ⟨⟨p, q⟩, ⟨r, t⟩⟩)] := (hdone 0 _ rfl rfl).2 _ rfl
      exact wpOp_val (v := .agg #[.int .u64 ((Rg.meetR ⟨⟨a, b⟩, ⟨c, d⟩⟩ ⟨⟨p, q⟩, ⟨r, t⟩⟩).u.lo), .int .u64 ((Rg.meetR ⟨⟨a, b⟩, ⟨c, d⟩⟩ ⟨⟨p, q⟩, ⟨r, t⟩⟩).u.hi), .int .i64 ((Rg.meetR ⟨⟨a, b⟩, ⟨c, d⟩⟩ ⟨⟨p, q⟩, ⟨r, t⟩⟩).s.lo), .int .i64 ((Rg.meetR ⟨⟨a, b⟩, ⟨c, d⟩⟩ ⟨⟨p, q⟩, ⟨r, t⟩⟩).s.hi)]) (w' := wx) rfl rfl (by simp [execOp, Act.eval, s31, go_sem]) ⟨_, rfl, tab_put rfl hs rfl rfl, hS.same 3 rfl⟩
     ·
      have s31 : ax.tmps.getD 31 undef = .tuple #[.agg #[.int .u64 ((Rg.meetR ⟨⟨a, b⟩, ⟨c, d⟩⟩ ⟨⟨p, q⟩, ⟨r, t⟩⟩).u.lo), .int .u64 ((Rg.meetR ⟨⟨a, b⟩, ⟨c, d⟩⟩ ⟨⟨p, q⟩, ⟨r, t⟩⟩).u.hi), .int .i64 ((Rg.meetR ⟨⟨a, b⟩, ⟨c, d⟩⟩ ⟨⟨p, q⟩, ⟨r, t⟩⟩).s.lo), .int .i64 ((Rg.meetR ⟨⟨a, b⟩, ⟨c, d⟩⟩ ⟨⟨p, q⟩, ⟨r, t⟩⟩).s.hi)], .bool (Rg.meetB ⟨⟨a, b⟩, ⟨c, d⟩⟩ ⟨⟨p, q⟩, ⟨r, t⟩⟩)] := (hdone 0 _ rfl rfl).2 _ rfl
      exact wpOp_val (v := .bool (Rg.meetB ⟨⟨a, b⟩, ⟨c, d⟩⟩ ⟨⟨p, q⟩, ⟨r, t⟩⟩)) (w' := wx) rfl rfl (by simp [execOp, Act.eval, s31, go_sem]) ⟨_, rfl, tab_put rfl hs rfl rfl, hS.same 4 rfl⟩
     ·
      have s32 : ax.tmps.getD 32 undef = .agg #[.int .u64 ((Rg.meetR ⟨⟨a, b⟩, ⟨c, d⟩⟩ ⟨⟨p, q⟩, ⟨r, t⟩⟩).u.lo), .int .u64 ((Rg.meetR ⟨⟨a, b⟩, ⟨c, d⟩⟩ ⟨⟨p, q⟩, ⟨r, t⟩⟩).u.hi), .int .i64 ((Rg.meetR ⟨⟨a, b⟩, ⟨c, d⟩⟩ ⟨⟨p, q⟩, ⟨r, t⟩⟩).s.lo), .int .i64 ((Rg.meetR ⟨⟨a, b⟩, ⟨c, d⟩⟩ ⟨⟨p, q⟩, ⟨r, t⟩⟩).s.hi)] := (hdone 0 _ rfl rfl).2 _ rfl
      have hr := hS.rowFi 2 rfl hfi
      exact wpOp_skp (w' := wx.setRow g3 #[.int .u64 ((Rg.meetR ⟨⟨a, b⟩, ⟨c, d⟩⟩ ⟨⟨p, q⟩, ⟨r, t⟩⟩).u.lo), .int .u64 ((Rg.meetR ⟨⟨a, b⟩, ⟨c, d⟩⟩ ⟨⟨p, q⟩, ⟨r, t⟩⟩).u.hi), .int .i64 ((Rg.meetR ⟨⟨a, b⟩, ⟨c, d⟩⟩ ⟨⟨p, q⟩, ⟨r, t⟩⟩).s.lo), .int .i64 ((Rg.meetR ⟨⟨a, b⟩, ⟨c, d⟩⟩ ⟨⟨p, q⟩, ⟨r, t⟩⟩).s.hi)]) rfl rfl (exec_storeR 60 _ _ rfl g3 #[.int .u64 ((Rg.meetR ⟨⟨a, b⟩, ⟨c, d⟩⟩ ⟨⟨p, q⟩, ⟨r, t⟩⟩).u.lo), .int .u64 ((Rg.meetR ⟨⟨a, b⟩, ⟨c, d⟩⟩ ⟨⟨p, q⟩, ⟨r, t⟩⟩).u.hi), .int .i64 ((Rg.meetR ⟨⟨a, b⟩, ⟨c, d⟩⟩ ⟨⟨p, q⟩, ⟨r, t⟩⟩).s.lo), .int .i64 ((Rg.meetR ⟨⟨a, b⟩, ⟨c, d⟩⟩ ⟨⟨p, q⟩, ⟨r, t⟩⟩).s.hi)] (show ax.eval (.tmp 6) = .pointer (some ⟨g3, 0, none⟩) from t6) (show ax.eval (.tmp 32) = .agg #[.int .u64 ((Rg.meetR ⟨⟨a, b⟩, ⟨c, d⟩⟩ ⟨⟨p, q⟩, ⟨r, t⟩⟩).u.lo), .int .u64 ((Rg.meetR ⟨⟨a, b⟩, ⟨c, d⟩⟩ ⟨⟨p, q⟩, ⟨r, t⟩⟩).u.hi), .int .i64 ((Rg.meetR ⟨⟨a, b⟩, ⟨c, d⟩⟩ ⟨⟨p, q⟩, ⟨r, t⟩⟩).s.lo), .int .i64 ((Rg.meetR ⟨⟨a, b⟩, ⟨c, d⟩⟩ ⟨⟨p, q⟩, ⟨r, t⟩⟩).s.hi)] from s32) hr (by kernel_rfl) rfl (by simp [Value.oneCell'])) ⟨undef, rfl, trivial, hS.storeBi 5 2 rfl q_g3 rfl ⟨(show g1 ≠ g3 by omega), (show g2 ≠ g3 by omega), (show g4 ≠ g3 by omega), (show g5 ≠ g3 by omega), trivial⟩ (stored_setRow wx g3 _ _ _ hr)⟩
     ·
      have s33 : ax.tmps.getD 33 undef = .bool (Rg.meetB ⟨⟨a, b⟩, ⟨c, d⟩⟩ ⟨⟨p, q⟩, ⟨r, t⟩⟩) := (hdone 0 _ rfl rfl).2 _ rfl
      exact wpOp_val (v := .bool (Rg.meetB ⟨⟨a, b⟩, ⟨c, d⟩⟩ ⟨⟨p, q⟩, ⟨r, t⟩⟩)) (w' := wx) rfl rfl (by simp [execOp, Act.eval, s33]) ⟨_, rfl, tab_put rfl hs rfl rfl, hS.same 6 rfl⟩
   intro a6 w6 fl d6 z6 rest6 R6 hfl hS
   obtain ⟨B6, n6, hBs, hAs, hPs⟩ := hS.finish hfl rfl
   replace d6 := d6.trans d5
   replace z6 := z6.trans z5
   obtain ⟨⟨-, b_g1_6⟩, ⟨-, b_g2_6⟩, ⟨-, b_g3_6⟩, ⟨-, b_g4_6⟩, ⟨-, b_g5_6⟩, -⟩ := hBs
   have s6_6 := (rest6 6 (not_of (by kernel_rfl))).trans s6_5
   have s7_6 : a6.tmps.getD 7 undef = .bool (Rg.meetB ⟨⟨a, b⟩, ⟨c, d⟩⟩ ⟨⟨p, q⟩, ⟨r, t⟩⟩) := R6 6 _ rfl
   have s8_6 := (rest6 8 (not_of (by kernel_rfl))).trans s8_5
   have s9_6 := (rest6 9 (not_of (by kernel_rfl))).trans s9_5
   clear R6 rest6 hS hfl hPs hAs
   clear s4_5 s5_5 s6_5 s7_5 s8_5 s9_5 s25_5 s27_5 b_g1_5 b_g2_5 b_g3_5 b_g4_5 b_g5_5 d5 z5
   refine wp_ret ?_
   try simp only [Exit.inBlock, Exit.then]
   refine bodyPost_ret (res_ct (fn := Try.f24) rfl s6_6 (load_row 60 b_g3_6 Try.underlying60 rfl (by kernel_rfl)) s7_6) d6 ?_
   have ho : cc = 0 := yb Ffk3.out
   have hk : ccOk cc = true := by rw [ho]; rfl
   have HD : givC cc ⟨⟨a, b⟩, ⟨c, d⟩⟩ ⟨⟨p, q⟩, ⟨r, t⟩⟩ = Rg.meet2 ⟨⟨a, b⟩, ⟨c, d⟩⟩ ⟨⟨p, q⟩, ⟨r, t⟩⟩ := by unfold givC; rw [if_pos ho]
   have HE : Value.tuple #[.agg #[.int .u64 ((Rg.meetR ⟨⟨a, b⟩, ⟨c, d⟩⟩ ⟨⟨p, q⟩, ⟨r, t⟩⟩).u.lo), .int .u64 ((Rg.meetR ⟨⟨a, b⟩, ⟨c, d⟩⟩ ⟨⟨p, q⟩, ⟨r, t⟩⟩).u.hi), .int .i64 ((Rg.meetR ⟨⟨a, b⟩, ⟨c, d⟩⟩ ⟨⟨p, q⟩, ⟨r, t⟩⟩).s.lo), .int .i64 ((Rg.meetR ⟨⟨a, b⟩, ⟨c, d⟩⟩ ⟨⟨p, q⟩, ⟨r, t⟩⟩).s.hi)], .bool (Rg.meetB ⟨⟨a, b⟩, ⟨c, d⟩⟩ ⟨⟨p, q⟩, ⟨r, t⟩⟩)] = .tuple #[Rg.val (Rg.giv cc ⟨⟨a, b⟩, ⟨c, d⟩⟩ ⟨⟨p, q⟩, ⟨r, t⟩⟩), .bool (Rg.givB cc ⟨⟨a, b⟩, ⟨c, d⟩⟩ ⟨⟨p, q⟩, ⟨r, t⟩⟩)] := by unfold Rg.giv Rg.givB; rw [Ffk1.out, Ffk2.out, hk, if_pos (by rfl), HD]; unfold Rg.meetR Rg.meetB; rw [Ffk1.out, Ffk2.out, if_pos (by rfl)]; rfl
   exact ⟨retV HE, B6⟩
  have Ffk3 := Lib.hid fk3; clear fk3
  refine wp_regx (SX W w4.heap.size [⟨g1, 60, (cR a b c d), none, #[]⟩, ⟨g2, 60, (cR p q r t), none, #[]⟩, ⟨g3, 60, (cR 0 0 0 0), none, #[]⟩, ⟨g4, 95, (cU a b), none, #[]⟩, ⟨g5, 99, (cS c d), none, #[]⟩] []) (TabX [fun vx => vx = .bool false, fun vx => vx = .bool false]) (by kernel_rfl) (back_of (by kernel_rfl)) (dst_of (by kernel_rfl)) (in_ofz (by kernel_rfl) z4) (fun fl w1 hfl hw => SX.start' hw B4 hfl rfl ⟨b_g1_4, b_g2_4, b_g3_4, b_g4_4, b_g5_4, trivial⟩) ?h11 ?_
  case h11 =>
    intro ix ox ax wx fl ho hS hfi clo hsz hrest hdone hund
    have t25 := (hrest 25 (not_of (by kernel_rfl))).trans s25_4
    have hs : ax.tmps.size = 105 := hsz.trans z4
    have hi : ix < 2 := (Array.getElem?_eq_some_iff.1 ho).1
    clear hrest hsz hund
    obtain rfl | rfl : ix = 0 ∨ ix = 1 := by omega
    all_goals obtain rfl := Option.some.inj (show some _ = some ox from ho)
    ·
     exact wpOp_val (v := .bool (cc == 0)) (w' := wx) rfl rfl (by (simp [execOp, Act.eval, t25, go_sem]; try (simp only [IntKind.wrap_i64, wrap64]))) ⟨_, rfl, tab_put rfl hs rfl (congrArg Value.bool Ffk3.out), hS.same 0 rfl⟩
    ·
     have s28 : ax.tmps.getD 28 undef = .bool false := (hdone 0 _ rfl rfl).2 _ rfl
     exact wpOp_val (v := .bool false) (w' := wx) rfl rfl (by simp [execOp, Act.eval, s28]) ⟨_, rfl, tab_put rfl hs rfl rfl, hS.same 1 rfl⟩
  intro a5 w5 fl d5 z5 rest5 R5 hfl hS
  obtain ⟨B5, n5, hBs, hAs, hPs⟩ := hS.finish hfl rfl
  replace d5 := d5.trans d4
  replace z5 := z5.trans z4
  obtain ⟨⟨-, b_g1_5⟩, ⟨-, b_g2_5⟩, ⟨-, b_g3_5⟩, ⟨-, b_g4_5⟩, ⟨-, b_g5_5⟩, -⟩ := hBs
  have s4_5 := (rest5 4 (not_of (by kernel_rfl))).trans s4_4
  have s5_5 := (rest5 5 (not_of (by kernel_rfl))).trans s5_4
  have s6_5 := (rest5 6 (not_of (by kernel_rfl))).trans s6_4
  have s7_5 := (rest5 7 (not_of (by kernel_rfl))).trans s7_4
  have s8_5 := (rest5 8 (not_of (by kernel_rfl))).trans s8_4
  have s9_5 := (rest5 9 (not_of (by kernel_rfl))).trans s9_4
  have s25_5 := (rest5 25 (not_of (by kernel_rfl))).trans s25_4
  have s27_5 : a5.tmps.getD 27 undef = .bool false := R5 1 _ rfl
  clear R5 rest5 hS hfl hPs hAs
  clear s4_4 s5_4 s6_4 s7_4 s8_4 s9_4 s25_4 b_g1_4 b_g2_4 b_g3_4 b_g4_4 b_g5_4 d4 z4
  refine wp_cond_false (show a5.tmps.getD 27 undef = .bool false from s27_5) ?_
  refine wp_seq ?_
  cases fk4 : cc == 1
  case true =>
   have Ffk4 := Lib.hid fk4; clear fk4
   refine wp_regx (SX W w5.heap.size [⟨g1, 60, (cR a b c d), none, #[]⟩, ⟨g2, 60, (cR p q r t), none, #[]⟩, ⟨g3, 60, (cR 0 0 0 0), none, #[]⟩, ⟨g4, 95, (cU a b), none, #[]⟩, ⟨g5, 99, (cS c d), none, #[]⟩] []) (TabX [fun vx => vx = .bool true, fun vx => vx = .bool true]) (by kernel_rfl) (back_of (by kernel_rfl)) (dst_of (by kernel_rfl)) (in_ofz (by kernel_rfl) z5) (fun fl w1 hfl hw => SX.start' hw B5 hfl rfl ⟨b_g1_5, b_g2_5, b_g3_5, b_g4_5, b_g5_5, trivial⟩) ?h12 ?_
   case h12 =>
     intro ix ox ax wx fl ho hS hfi clo hsz hrest hdone hund
     have t25 := (hrest 25 (not_of (by kernel_rfl))).trans s25_5
     have hs : ax.tmps.size = 105 := hsz.trans z5
     have hi : ix < 2 := (Array.getElem?_eq_some_iff.1 ho).1
     clear hrest hsz hund
     obtain rfl | rfl : ix = 0 ∨ ix = 1 := by omega
     all_goals obtain rfl := Option.some.inj (show some _ = some ox from ho)
     ·
      exact wpOp_val (v := .bool (cc == 1)) (w' := wx) rfl rfl (by (simp [execOp, Act.eval, t25, go_sem]; try (simp only [IntKind.wrap_i64, wrap64]))) ⟨_, rfl, tab_put rfl hs rfl (congrArg Value.bool Ffk4.out), hS.same 0 rfl⟩
     ·
      have s35 : ax.tmps.getD 35 undef = .bool true := (hdone 0 _ rfl rfl).2 _ rfl
      exact wpOp_val (v := .bool true) (w' := wx) rfl rfl (by simp [execOp, Act.eval, s35]) ⟨_, rfl, tab_put rfl hs rfl rfl, hS.same 1 rfl⟩
   intro a6 w6 fl d6 z6 rest6 R6 hfl hS
   obtain ⟨B6, n6, hBs, hAs, hPs⟩ := hS.finish hfl rfl
   replace d6 := d6.trans d5
   replace z6 := z6.trans z5
   obtain ⟨⟨-, b_g1_6⟩, ⟨-, b_g2_6⟩, ⟨-, b_g3_6⟩, ⟨-, b_g4_6⟩, ⟨-, b_g5_6⟩, -⟩ := hBs
   have s5_6 := (rest6 5 (not_of (by kernel_rfl))).trans s5_5
   have s6_6 := (rest6 6 (not_of (by kernel_rfl))).trans s6_5
   have s7_6 := (rest6 7 (not_of (by kernel_rfl))).trans s7_5
   have s8_6 := (rest6 8 (not_of (by kernel_rfl))).trans s8_5
   have s9_6 := (rest6 9 (not_of (by kernel_rfl))).trans s9_5
   have s25_6 := (rest6 25 (not_of (by kernel_rfl))).trans s25_5
   have s34_6 : a6.tmps.getD 34 undef = .bool true := R6 1 _ rfl
   clear R6 rest6 hS hfl hPs hAs
   clear s4_5 s5_5 s6_5 s7_5 s8_5 s9_5 s25_5 s27_5 b_g1_5 b_g2_5 b_g3_5 b_g4_5 b_g5_5 d5 z5
   refine wp_cond_true (show a6.tmps.getD 34 undef = .bool true from s34_6) ?_
   refine wp_seq ?_
   cases fk5 : Rg.oneB ⟨⟨p, q⟩, ⟨r, t⟩⟩
   case false =>
    have Ffk5 := Lib.hid fk5; clear fk5
    refine wp_regx (SX W w6.heap.size [⟨g1, 60, (cR a b c d), none, #[]⟩, ⟨g2, 60, (cR p q r t), none, #[]⟩, ⟨g3, 60, (cR 0 0 0 0), none, #[]⟩, ⟨g4, 95, (cU a b), none, #[]⟩, ⟨g5, 99, (cS c d), none, #[]⟩] []) (TabX [fun vx => vx = .agg #[.int .u64 p, .int .u64 q, .int .i64 r, .int .i64 t], fun vx => vx = .tuple #[.int .u64 (Rg.oneV ⟨⟨p, q⟩, ⟨r, t⟩⟩), .bool (Rg.oneB ⟨⟨p, q⟩, ⟨r, t⟩⟩)], fun vx => vx = .tuple #[.int .u64 (Rg.oneV ⟨⟨p, q⟩, ⟨r, t⟩⟩), .bool (Rg.oneB ⟨⟨p, q⟩, ⟨r, t⟩⟩)], fun vx => vx = .int .u64 (Rg.oneV ⟨⟨p, q⟩, ⟨r, t⟩⟩), fun vx => vx = .bool false, fun vx => vx = .int .u64 (Rg.oneV ⟨⟨p, q⟩, ⟨r, t⟩⟩), fun vx => vx = .bool false]) (by kernel_rfl) (back_of (by kernel_rfl)) (dst_of (by kernel_rfl)) (in_ofz (by kernel_rfl) z6) (fun fl w1 hfl hw => SX.start' hw B6 hfl rfl ⟨b_g1_6, b_g2_6, b_g3_6, b_g4_6, b_g5_6, trivial⟩) ?h13 ?_
    case h13 =>
      intro ix ox ax wx fl ho hS hfi clo hsz hrest hdone hund
      have t5 := (hrest 5 (not_of (by kernel_rfl))).trans s5_6
      have hs : ax.tmps.size = 105 := hsz.trans z6
      have hi : ix < 7 := (Array.getElem?_eq_some_iff.1 ho).1
      clear hrest hsz hund
      obtain rfl | rfl | rfl | rfl | rfl | rfl | rfl : ix = 0 ∨ ix = 1 ∨ ix = 2 ∨ ix = 3 ∨ ix = 4 ∨ ix = 5 ∨ ix = 6 := by omega
      all_goals obtain rfl := Option.some.inj (show some _ = some ox from ho)
      ·
       have hr := hS.rowNi 1 rfl
       exact wpOp_val (v := .agg #[.int .u64 p, .int .u64 q, .int .i64 r, .int .i64 t]) (w' := wx) rfl rfl (exec_loadR 60 _ rfl g2 0 (show ax.eval (.tmp 5) = .pointer (some ⟨g2, 0, none⟩) from t5) hr [.int .u64 p, .int .u64 q, .int .i64 r, .int .i64 t] rfl _ Try.underlying60 rfl (by kernel_rfl)) ⟨_, rfl, tab_put rfl hs rfl rfl, hS.same 0 rfl⟩
      ·
       have s37 : ax.tmps.getD 37 undef = .agg #[.int .u64 p, .int .u64 q, .int .i64 r, .int .i64 t] := (hdone 0 _ rfl rfl).2 _ rfl
       refine wpOp_call (args := #[.agg #[.int .u64 p, .int .u64 q, .int .i64 r, .int .i64 t]]) rfl rfl (exec_call rfl rfl rfl (args1 (show ax.eval (.tmp 37) = .agg #[.int .u64 p, .int .u64 q, .int .i64 r, .int .i64 t] from s37)) Try.func26 (by decide +kernel) rfl) ?_
       · refine (single_n p q r t wx).mono ?_
         rintro e w' ⟨rfl, b9⟩
         exact ⟨_, rfl, _, rfl, tab_put rfl hs rfl rfl, hS.quiet 1 rfl b9⟩
      ·
       have s38 : ax.tmps.getD 38 undef = .tuple #[.int .u64 (Rg.oneV ⟨⟨p, q⟩, ⟨r, t⟩⟩), .bool (Rg.oneB ⟨⟨p, q⟩, ⟨r, t⟩⟩)] := (hdone 0 _ rfl rfl).2 _ rfl
       exact wpOp_val (v := .tuple #[.int .u64 (Rg.oneV ⟨⟨p, q⟩, ⟨r, t⟩⟩), .bool (Rg.oneB ⟨⟨p, q⟩, ⟨r, t⟩⟩)]) (w' := wx) rfl rfl (by (revert s38; generalize (.tuple #[.int .u64 (Rg.oneV ⟨⟨p, q⟩, ⟨r, t⟩⟩), .bool (Rg.oneB ⟨⟨p, q⟩, ⟨r, t⟩⟩)] : Value) = y0; intro s38); simp [execOp, Act.eval, s38]) ⟨_, rfl, tab_put rfl hs rfl rfl, hS.same 2 rfl⟩
      ·
       have s36 : ax.tmps.getD 36 undef = .tuple #[.int .u64 (Rg.oneV ⟨⟨p, q⟩, ⟨r, t⟩⟩), .bool (Rg.oneB ⟨⟨p, q⟩, ⟨r, t⟩⟩)] := (hdone 0 _ rfl rfl).2 _ rfl
       exact wpOp_val (v := .int .u64 (Rg.oneV ⟨⟨p, q⟩, ⟨r, t⟩⟩)) (w' := wx) rfl rfl (by simp [execOp, Act.eval, s36, go_sem]) ⟨_, rfl, tab_put rfl hs rfl rfl, hS.same 3 rfl⟩
      ·
       have s36 : ax.tmps.getD 36 undef = .tuple #[.int .u64 (Rg.oneV ⟨⟨p, q⟩, ⟨r, t⟩⟩), .bool (Rg.oneB ⟨⟨p, q⟩, ⟨r, t⟩⟩)] := (hdone 0 _ rfl rfl).2 _ rfl
       exact wpOp_val (v := .bool (Rg.oneB ⟨⟨p, q⟩, ⟨r, t⟩⟩)) (w' := wx) rfl rfl (by simp [execOp, Act.eval, s36, go_sem]) ⟨_, rfl, tab_put rfl hs rfl (congrArg Value.bool Ffk5.out), hS.same 4 rfl⟩
      ·
       have s39 : ax.tmps.getD 39 undef = .int .u64 (Rg.oneV ⟨⟨p, q⟩, ⟨r, t⟩⟩) := (hdone 0 _ rfl rfl).2 _ rfl
       exact wpOp_val (v := .int .u64 (Rg.oneV ⟨⟨p, q⟩, ⟨r, t⟩⟩)) (w' := wx) rfl rfl (by simp [execOp, Act.eval, s39]) ⟨_, rfl, tab_put rfl hs rfl rfl, hS.same 5 rfl⟩
      ·
       have s40 : ax.tmps.getD 40 undef = .bool false := (hdone 0 _ rfl rfl).2 _ rfl
       exact wpOp_val (v := .bool false) (w' := wx) rfl rfl (by simp [execOp, Act.eval, s40]) ⟨_, rfl, tab_put rfl hs rfl rfl, hS.same 6 rfl⟩
    intro a7 w7 fl d7 z7 rest7 R7 hfl hS
    obtain ⟨B7, n7, hBs, hAs, hPs⟩ := hS.finish hfl rfl
    replace d7 := d7.trans d6
    replace z7 := z7.trans z6
    obtain ⟨⟨-, b_g1_7⟩, ⟨-, b_g2_7⟩, ⟨-, b_g3_7⟩, ⟨-, b_g4_7⟩, ⟨-, b_g5_7⟩, -⟩ := hBs
    have s6_7 := (rest7 6 (not_of (by kernel_rfl))).trans s6_6
    have s7_7 := (rest7 7 (not_of (by kernel_rfl))).trans s7_6
    have s8_7 := (rest7 8 (not_of (by kernel_rfl))).trans s8_6
    have s9_7 := (rest7 9 (not_of (by kernel_rfl))).trans s9_6
    have s10_7 : a7.tmps.getD 10 undef = .int .u64 (Rg.oneV ⟨⟨p, q⟩, ⟨r, t⟩⟩) := R7 5 _ rfl
    have s11_7 : a7.tmps.getD 11 undef = .bool false := R7 6 _ rfl
    clear R7 rest7 hS hfl hPs hAs
    clear s5_6 s6_6 s7_6 s8_6 s9_6 s25_6 s34_6 b_g1_6 b_g2_6 b_g3_6 b_g4_6 b_g5_6 d6 z6
    refine wp_seq ?_
    refine wp_regx (SX W w7.heap.size [⟨g1, 60, (cR a b c d), none, #[]⟩, ⟨g2, 60, (cR p q r t), none, #[]⟩, ⟨g3, 60, (cR 0 0 0 0), none, #[]⟩, ⟨g4, 95, (cU a b), none, #[]⟩, ⟨g5, 99, (cS c d), none, #[]⟩] []) (TabX [fun vx => vx = .bool false]) (by kernel_rfl) (back_of (by kernel_rfl)) (dst_of (by kernel_rfl)) (in_ofz (by kernel_rfl) z7) (fun fl w1 hfl hw => SX.start' hw B7 hfl rfl ⟨b_g1_7, b_g2_7, b_g3_7, b_g4_7, b_g5_7, trivial⟩) ?h14 ?_
    case h14 =>
      intro ix ox ax wx fl ho hS hfi clo hsz hrest hdone hund
      have t11 := (hrest 11 (not_of (by kernel_rfl))).trans s11_7
      have hs : ax.tmps.size = 105 := hsz.trans z7
      have hi : ix < 1 := (Array.getElem?_eq_some_iff.1 ho).1
      clear hrest hsz hund
      obtain rfl : ix = 0 := by omega
      all_goals obtain rfl := Option.some.inj (show some _ = some ox from ho)
      ·
       exact wpOp_val (v := .bool false) (w' := wx) rfl rfl (by simp [execOp, Act.eval, t11]) ⟨_, rfl, tab_put rfl hs rfl rfl, hS.same 0 rfl⟩
    intro a8 w8 fl d8 z8 rest8 R8 hfl hS
    obtain ⟨B8, n8, hBs, hAs, hPs⟩ := hS.finish hfl rfl
    replace d8 := d8.trans d7
    replace z8 := z8.trans z7
    obtain ⟨⟨-, b_g1_8⟩, ⟨-, b_g2_8⟩, ⟨-, b_g3_8⟩, ⟨-, b_g4_8⟩, ⟨-, b_g5_8⟩, -⟩ := hBs
    have s6_8 := (rest8 6 (not_of (by kernel_rfl))).trans s6_7
    have s7_8 := (rest8 7 (not_of (by kernel_rfl))).trans s7_7
    have s8_8 := (rest8 8 (not_of (by kernel_rfl))).trans s8_7
    have s9_8 := (rest8 9 (not_of (by kernel_rfl))).trans s9_7
    have s10_8 := (rest8 10 (not_of (by kernel_rfl))).trans s10_7
    have s41_8 : a8.tmps.getD 41 undef = .bool false := R8 0 _ rfl
    clear R8 rest8 hS hfl hPs hAs
    clear s6_7 s7_7 s8_7 s9_7 s10_7 s11_7 b_g1_7 b_g2_7 b_g3_7 b_g4_7 b_g5_7 d7 z7
    refine wp_cond_false (show a8.tmps.getD 41 undef = .bool false from s41_8) ?_
    refine wp_skip ?_
    refine wp_seq ?_
    refine wp_regx (SX W w8.heap.size [⟨g1, 60, (cR a b c d), none, #[]⟩, ⟨g2, 60, (cR p q r t), none, #[]⟩, ⟨g3, 60, (cR 0 0 0 0), some 6, (cR ((Rg.nar ⟨⟨a, b⟩, ⟨c, d⟩⟩).u.lo) ((Rg.nar ⟨⟨a, b⟩, ⟨c, d⟩⟩).u.hi) ((Rg.nar ⟨⟨a, b⟩, ⟨c, d⟩⟩).s.lo) ((Rg.nar ⟨⟨a, b⟩, ⟨c, d⟩⟩).s.hi))⟩, ⟨g4, 95, (cU a b), none, #[]⟩, ⟨g5, 99, (cS c d), none, #[]⟩] []) (TabX [fun vx => vx = .agg #[.int .u64 a, .int .u64 b], fun vx => vx = .agg #[.int .i64 c, .int .i64 d], fun vx => vx = .agg #[.int .u64 a, .int .u64 b, .int .i64 c, .int .i64 d], fun vx => vx = .tuple #[.agg #[.int .u64 ((Rg.nar ⟨⟨a, b⟩, ⟨c, d⟩⟩).u.lo), .int .u64 ((Rg.nar ⟨⟨a, b⟩, ⟨c, d⟩⟩).u.hi), .int .i64 ((Rg.nar ⟨⟨a, b⟩, ⟨c, d⟩⟩).s.lo), .int .i64 ((Rg.nar ⟨⟨a, b⟩, ⟨c, d⟩⟩).s.hi)], .bool (Rg.narB ⟨⟨a, b⟩, ⟨c, d⟩⟩)], fun vx => vx = .agg #[.int .u64 ((Rg.nar ⟨⟨a, b⟩, ⟨c, d⟩⟩).u.lo), .int .u64 ((Rg.nar ⟨⟨a, b⟩, ⟨c, d⟩⟩).u.hi), .int .i64 ((Rg.nar ⟨⟨a, b⟩, ⟨c, d⟩⟩).s.lo), .int .i64 ((Rg.nar ⟨⟨a, b⟩, ⟨c, d⟩⟩).s.hi)], fun vx => vx = .bool (Rg.narB ⟨⟨a, b⟩, ⟨c, d⟩⟩), fun _ => True, fun vx => vx = .bool (Rg.narB ⟨⟨a, b⟩, ⟨c, d⟩⟩)]) (by kernel_rfl) (back_of (by kernel_rfl)) (dst_of (by kernel_rfl)) (in_ofz (by kernel_rfl) z8) (fun fl w1 hfl hw => SX.start' hw B8 hfl rfl ⟨b_g1_8, b_g2_8, b_g3_8, b_g4_8, b_g5_8, trivial⟩) ?h15 ?_
    case h15 =>
      intro ix ox ax wx fl ho hS hfi clo hsz hrest hdone hund
      have t6 := (hrest 6 (not_of (by kernel_rfl))).trans s6_8
      have t8 := (hrest 8 (not_of (by kernel_rfl))).trans s8_8
      have t9 := (hrest 9 (not_of (by kernel_rfl))).trans s9_8
      have hs : ax.tmps.size = 105 := hsz.trans z8
      have hi : ix < 8 := (Array.getElem?_eq_some_iff.1 ho).1
      clear hrest hsz hund
      obtain rfl | rfl | rfl | rfl | rfl | rfl | rfl | rfl : ix = 0 ∨ ix = 1 ∨ ix = 2 ∨ ix = 3 ∨ ix = 4 ∨ ix = 5 ∨ ix = 6 ∨ ix = 7 := by omega
      all_goals obtain rfl := Option.some.inj (show some _ = some ox from ho)
      ·
       have hr := hS.rowNi 3 rfl
       exact wpOp_val (v := .agg #[.int .u64 a, .int .u64 b]) (w' := wx) rfl rfl (exec_loadR 95 _ rfl g4 0 (show ax.eval (.tmp 8) = .pointer (some ⟨g4, 0, none⟩) from t8) hr [.int .u64 a, .int .u64 b] rfl _ Try.underlying95 rfl (by kernel_rfl)) ⟨_, rfl, tab_put rfl hs rfl rfl, hS.same 0 rfl⟩
      ·
       have hr := hS.rowNi 4 rfl
       exact wpOp_val (v := .agg #[.int .i64 c, .int .i64 d]) (w' := wx) rfl rfl (exec_loadR 99 _ rfl g5 0 (show ax.eval (.tmp 9) = .pointer (some ⟨g5, 0, none⟩) from t9) hr [.int .i64 c, .int .i64 d] rfl _ Try.underlying99 rfl (by kernel_rfl)) ⟨_, rfl, tab_put rfl hs rfl rfl, hS.same 1 rfl⟩
      ·
       have s99 : ax.tmps.getD 99 undef = .agg #[.int .u64 a, .int .u64 b] := (hdone 0 _ rfl rfl).2 _ rfl
       have s100 : ax.tmps.getD 100 undef = .agg #[.int .i64 c, .int .i64 d] := (hdone 1 _ rfl rfl).2 _ rfl
       refine wpOp_call (args := #[.agg #[.int .u64 a, .int .u64 b], .agg #[.int .i64 c, .int .i64 d]]) rfl rfl (exec_call rfl rfl rfl (args2 (show ax.eval (.tmp 99) = .agg #[.int .u64 a, .int .u64 b] from s99) (show ax.eval (.tmp 100) = .agg #[.int .i64 c, .int .i64 d] from s100)) Try.func60 (by decide +kernel) rfl) ?_
       · refine (both_n a b c d wx).mono ?_
         rintro e w' ⟨rfl, b9⟩
         exact ⟨_, rfl, _, rfl, tab_put rfl hs rfl rfl, hS.quiet 2 rfl b9⟩
      ·
       have s101 : ax.tmps.getD 101 undef = .agg #[.int .u64 a, .int .u64 b, .int .i64 c, .int .i64 d] := (hdone 0 _ rfl rfl).2 _ rfl
       refine wpOp_call (args := #[.agg #[.int .u64 a, .int .u64 b, .int .i64 c, .int .i64 d]]) rfl rfl (exec_call rfl rfl rfl (args1 (show ax.eval (.tmp 101) = .agg #[.int .u64 a, .int .u64 b, .int .i64 c, .int .i64 d] from s101)) Try.func28 (by decide +kernel) rfl) ?_
       · refine (narrow_n a b c d wx HA.out).mono ?_
         rintro e w' ⟨rfl, b9⟩
         exact ⟨_, rfl, _, rfl, tab_put rfl hs rfl rfl, hS.quiet 3 rfl b9⟩
      ·
       have s102 : ax.tmps.getD 102 undef = .tuple #[.agg #[.int .u64 ((Rg.nar ⟨⟨a, b⟩, ⟨c, d⟩⟩).u.lo), .int .u64 ((Rg.nar ⟨⟨a, b⟩, ⟨c, d⟩⟩).u.hi), .int .i64 ((Rg.nar ⟨⟨a, b⟩, ⟨c, d⟩⟩).s.lo), .int .i64 ((Rg.nar ⟨⟨a, b⟩, ⟨c, d⟩⟩).s.hi)], .bool (Rg.narB ⟨⟨a, b⟩, ⟨c, d⟩⟩)] := (hdone 0 _ rfl rfl).2 _ rfl
       exact wpOp_val (v := .agg #[.int .u64 ((Rg.nar ⟨⟨a, b⟩, ⟨c, d⟩⟩).u.lo), .int .u64 ((Rg.nar ⟨⟨a, b⟩, ⟨c, d⟩⟩).u.hi), .int .i64 ((Rg.nar ⟨⟨a, b⟩, ⟨c, d⟩⟩).s.lo), .int .i64 ((Rg.nar ⟨⟨a, b⟩, ⟨c, d⟩⟩).s.hi)]) (w' := wx) rfl rfl (by simp [execOp, Act.eval, s102, go_sem]) ⟨_, rfl, tab_put rfl hs rfl rfl, hS.same 4 rfl⟩
      ·
       have s102 : ax.tmps.getD 102 undef = .tuple #[.agg #[.int .u64 ((Rg.nar ⟨⟨a, b⟩, ⟨c, d⟩⟩).u.lo), .int .u64 ((Rg.nar ⟨⟨a, b⟩, ⟨c, d⟩⟩).u.hi), .int .i64 ((Rg.nar ⟨⟨a, b⟩, ⟨c, d⟩⟩).s.lo), .int .i64 ((Rg.nar ⟨⟨a, b⟩, ⟨c, d⟩⟩).s.hi)], .bool (Rg.narB ⟨⟨a, b⟩, ⟨c, d⟩⟩)] := (hdone 0 _ rfl rfl).2 _ rfl
       exact wpOp_val (v := .bool (Rg.narB ⟨⟨a, b⟩, ⟨c, d⟩⟩)) (w' := wx) rfl rfl (by simp [execOp, Act.eval, s102, go_sem]) ⟨_, rfl, tab_put rfl hs rfl rfl, hS.same 5 rfl⟩
      ·
       have s103 : ax.tmps.getD 103 undef = .agg #[.int .u64 ((Rg.nar ⟨⟨a, b⟩, ⟨c, d⟩⟩).u.lo), .int .u64 ((Rg.nar ⟨⟨a, b⟩, ⟨c, d⟩⟩).u.hi), .int .i64 ((Rg.nar ⟨⟨a, b⟩, ⟨c, d⟩⟩).s.lo), .int .i64 ((Rg.nar ⟨⟨a, b⟩, ⟨c, d⟩⟩).s.hi)] := (hdone 0 _ rfl rfl).2 _ rfl
       have hr := hS.rowFi 2 rfl hfi
       exact wpOp_skp (w' := wx.setRow g3 #[.int .u64 ((Rg.nar ⟨⟨a, b⟩, ⟨c, d⟩⟩).u.lo), .int .u64 ((Rg.nar ⟨⟨a, b⟩, ⟨c, d⟩⟩).u.hi), .int .i64 ((Rg.nar ⟨⟨a, b⟩, ⟨c, d⟩⟩).s.lo), .int .i64 ((Rg.nar ⟨⟨a, b⟩, ⟨c, d⟩⟩).s.hi)]) rfl rfl (exec_storeR 60 _ _ rfl g3 #[.int .u64 ((Rg.nar ⟨⟨a, b⟩, ⟨c, d⟩⟩).u.lo), .int .u64 ((Rg.nar ⟨⟨a, b⟩, ⟨c, d⟩⟩).u.hi), .int .i64 ((Rg.nar ⟨⟨a, b⟩, ⟨c, d⟩⟩).s.lo), .int .i64 ((Rg.nar ⟨⟨a, b⟩, ⟨c, d⟩⟩).s.hi)] (show ax.eval (.tmp 6) = .pointer (some ⟨g3, 0, none⟩) from t6) (show ax.eval (.tmp 103) = .agg #[.int .u64 ((Rg.nar ⟨⟨a, b⟩, ⟨c, d⟩⟩).u.lo), .int .u64 ((Rg.nar ⟨⟨a, b⟩, ⟨c, d⟩⟩).u.hi), .int .i64 ((Rg.nar ⟨⟨a, b⟩, ⟨c, d⟩⟩).s.lo), .int .i64 ((Rg.nar ⟨⟨a, b⟩, ⟨c, d⟩⟩).s.hi)] from s103) hr (by kernel_rfl) rfl (by simp [Value.oneCell'])) ⟨undef, rfl, trivial, hS.storeBi 6 2 rfl q_g3 rfl ⟨(show g1 ≠ g3 by omega), (show g2 ≠ g3 by omega), (show g4 ≠ g3 by omega), (show g5 ≠ g3 by omega), trivial⟩ (stored_setRow wx g3 _ _ _ hr)⟩
      ·
       have s104 : ax.tmps.getD 104 undef = .bool (Rg.narB ⟨⟨a, b⟩, ⟨c, d⟩⟩) := (hdone 0 _ rfl rfl).2 _ rfl
       exact wpOp_val (v := .bool (Rg.narB ⟨⟨a, b⟩, ⟨c, d⟩⟩)) (w' := wx) rfl rfl (by simp [execOp, Act.eval, s104]) ⟨_, rfl, tab_put rfl hs rfl rfl, hS.same 7 rfl⟩
    intro a9 w9 fl d9 z9 rest9 R9 hfl hS
    obtain ⟨B9, n9, hBs, hAs, hPs⟩ := hS.finish hfl rfl
    replace d9 := d9.trans d8
    replace z9 := z9.trans z8
    obtain ⟨⟨-, b_g1_9⟩, ⟨-, b_g2_9⟩, ⟨-, b_g3_9⟩, ⟨-, b_g4_9⟩, ⟨-, b_g5_9⟩, -⟩ := hBs
    have s6_9 := (rest9 6 (not_of (by kernel_rfl))).trans s6_8
    have s7_9 : a9.tmps.getD 7 undef = .bool (Rg.narB ⟨⟨a, b⟩, ⟨c, d⟩⟩) := R9 7 _ rfl
    clear R9 rest9 hS hfl hPs hAs
    clear s6_8 s7_8 s8_8 s9_8 s10_8 s41_8 b_g1_8 b_g2_8 b_g3_8 b_g4_8 b_g5_8 d8 z8
    refine wp_ret ?_
    try simp only [Exit.inBlock, Exit.then]
    refine bodyPost_ret (res_ct (fn := Try.f24) rfl s6_9 (load_row 60 b_g3_9 Try.underlying60 rfl (by kernel_rfl)) s7_9) d9 ?_
    have no0 := nb Ffk3.out
    have ho : cc = 1 := yb Ffk4.out
    have hk : ccOk cc = true := by rw [ho]; rfl
    have HD : givC cc ⟨⟨a, b⟩, ⟨c, d⟩⟩ ⟨⟨p, q⟩, ⟨r, t⟩⟩ = ⟨⟨a, b⟩, ⟨c, d⟩⟩ := by
      unfold givC
      simp only [if_neg no0, if_pos ho, if_neg (show ¬ Rg.oneB ⟨⟨p, q⟩, ⟨r, t⟩⟩ = true by rw [Ffk5.out]; decide)]
      try rfl
    have HE : Value.tuple #[.agg #[.int .u64 ((Rg.nar ⟨⟨a, b⟩, ⟨c, d⟩⟩).u.lo), .int .u64 ((Rg.nar ⟨⟨a, b⟩, ⟨c, d⟩⟩).u.hi), .int .i64 ((Rg.nar ⟨⟨a, b⟩, ⟨c, d⟩⟩).s.lo), .int .i64 ((Rg.nar ⟨⟨a, b⟩, ⟨c, d⟩⟩).s.hi)], .bool (Rg.narB ⟨⟨a, b⟩, ⟨c, d⟩⟩)] = .tuple #[Rg.val (Rg.giv cc ⟨⟨a, b⟩, ⟨c, d⟩⟩ ⟨⟨p, q⟩, ⟨r, t⟩⟩), .bool (Rg.givB cc ⟨⟨a, b⟩, ⟨c, d⟩⟩ ⟨⟨p, q⟩, ⟨r, t⟩⟩)] := by unfold Rg.giv Rg.givB; rw [Ffk1.out, Ffk2.out, hk, if_pos (by rfl), HD]; rfl
    exact ⟨retV HE, B9⟩
   have Ffk5 := Lib.hid fk5; clear fk5
   refine wp_regx (SX W w6.heap.size [⟨g1, 60, (cR a b c d), none, #[]⟩, ⟨g2, 60, (cR p q r t), none, #[]⟩, ⟨g3, 60, (cR 0 0 0 0), none, #[]⟩, ⟨g4, 95, (cU a b), none, #[]⟩, ⟨g5, 99, (cS c d), none, #[]⟩] []) (TabX [fun vx => vx = .agg #[.int .u64 p, .int .u64 q, .int .i64 r, .int .i64 t], fun vx => vx = .tuple #[.int .u64 (Rg.oneV ⟨⟨p, q⟩, ⟨r, t⟩⟩), .bool (Rg.oneB ⟨⟨p, q⟩, ⟨r, t⟩⟩)], fun vx => vx = .tuple #[.int .u64 (Rg.oneV ⟨⟨p, q⟩, ⟨r, t⟩⟩), .bool (Rg.oneB ⟨⟨p, q⟩, ⟨r, t⟩⟩)], fun vx => vx = .int .u64 (Rg.oneV ⟨⟨p, q⟩, ⟨r, t⟩⟩), fun vx => vx = .bool true, fun vx => vx = .int .u64 (Rg.oneV ⟨⟨p, q⟩, ⟨r, t⟩⟩), fun vx => vx = .bool true]) (by kernel_rfl) (back_of (by kernel_rfl)) (dst_of (by kernel_rfl)) (in_ofz (by kernel_rfl) z6) (fun fl w1 hfl hw => SX.start' hw B6 hfl rfl ⟨b_g1_6, b_g2_6, b_g3_6, b_g4_6, b_g5_6, trivial⟩) ?h16 ?_
   case h16 =>
     intro ix ox ax wx fl ho hS hfi clo hsz hrest hdone hund
     have t5 := (hrest 5 (not_of (by kernel_rfl))).trans s5_6
     have hs : ax.tmps.size = 105 := hsz.trans z6
     have hi : ix < 7 := (Array.getElem?_eq_some_iff.1 ho).1
     clear hrest hsz hund
     obtain rfl | rfl | rfl | rfl | rfl | rfl | rfl : ix = 0 ∨ ix = 1 ∨ ix = 2 ∨ ix = 3 ∨ ix = 4 ∨ ix = 5 ∨ ix = 6 := by omega
     all_goals obtain rfl := Option.some.inj (show some _ = some ox from ho)
     ·
      have hr := hS.rowNi 1 rfl
      exact wpOp_val (v := .agg #[.int .u64 p, .int .u64 q, .int .i64 r, .int .i64 t]) (w' := wx) rfl rfl (exec_loadR 60 _ rfl g2 0 (show ax.eval (.tmp 5) = .pointer (some ⟨g2, 0, none⟩) from t5) hr [.int .u64 p, .int .u64 q, .int .i64 r, .int .i64 t] rfl _ Try.underlying60 rfl (by kernel_rfl)) ⟨_, rfl, tab_put rfl hs rfl rfl, hS.same 0 rfl⟩
     ·
      have s37 : ax.tmps.getD 37 undef = .agg #[.int .u64 p, .int .u64 q, .int .i64 r, .int .i64 t] := (hdone 0 _ rfl rfl).2 _ rfl
      refine wpOp_call (args := #[.agg #[.int .u64 p, .int .u64 q, .int .i64 r, .int .i64 t]]) rfl rfl (exec_call rfl rfl rfl (args1 (show ax.eval (.tmp 37) = .agg #[.int .u64 p, .int .u64 q, .int .i64 r, .int .i64 t] from s37)) Try.func26 (by decide +kernel) rfl) ?_
      · refine (single_n p q r t wx).mono ?_
        rintro e w' ⟨rfl, b9⟩
        exact ⟨_, rfl, _, rfl, tab_put rfl hs rfl rfl, hS.quiet 1 rfl b9⟩
     ·
      have s38 : ax.tmps.getD 38 undef = .tuple #[.int .u64 (Rg.oneV ⟨⟨p, q⟩, ⟨r, t⟩⟩), .bool (Rg.oneB ⟨⟨p, q⟩, ⟨r, t⟩⟩)] := (hdone 0 _ rfl rfl).2 _ rfl
      exact wpOp_val (v := .tuple #[.int .u64 (Rg.oneV ⟨⟨p, q⟩, ⟨r, t⟩⟩), .bool (Rg.oneB ⟨⟨p, q⟩, ⟨r, t⟩⟩)]) (w' := wx) rfl rfl (by (revert s38; generalize (.tuple #[.int .u64 (Rg.oneV ⟨⟨p, q⟩, ⟨r, t⟩⟩), .bool (Rg.oneB ⟨⟨p, q⟩, ⟨r, t⟩⟩)] : Value) = y0; intro s38); simp [execOp, Act.eval, s38]) ⟨_, rfl, tab_put rfl hs rfl rfl, hS.same 2 rfl⟩
     ·
      have s36 : ax.tmps.getD 36 undef = .tuple #[.int .u64 (Rg.oneV ⟨⟨p, q⟩, ⟨r, t⟩⟩), .bool (Rg.oneB ⟨⟨p, q⟩, ⟨r, t⟩⟩)] := (hdone 0 _ rfl rfl).2 _ rfl
      exact wpOp_val (v := .int .u64 (Rg.oneV ⟨⟨p, q⟩, ⟨r, t⟩⟩)) (w' := wx) rfl rfl (by simp [execOp, Act.eval, s36, go_sem]) ⟨_, rfl, tab_put rfl hs rfl rfl, hS.same 3 rfl⟩
     ·
      have s36 : ax.tmps.getD 36 undef = .tuple #[.int .u64 (Rg.oneV ⟨⟨p, q⟩, ⟨r, t⟩⟩), .bool (Rg.oneB ⟨⟨p, q⟩, ⟨r, t⟩⟩)] := (hdone 0 _ rfl rfl).2 _ rfl
      exact wpOp_val (v := .bool (Rg.oneB ⟨⟨p, q⟩, ⟨r, t⟩⟩)) (w' := wx) rfl rfl (by simp [execOp, Act.eval, s36, go_sem]) ⟨_, rfl, tab_put rfl hs rfl (congrArg Value.bool Ffk5.out), hS.same 4 rfl⟩
     ·
      have s39 : ax.tmps.getD 39 undef = .int .u64 (Rg.oneV ⟨⟨p, q⟩, ⟨r, t⟩⟩) := (hdone 0 _ rfl rfl).2 _ rfl
      exact wpOp_val (v := .int .u64 (Rg.oneV ⟨⟨p, q⟩, ⟨r, t⟩⟩)) (w' := wx) rfl rfl (by simp [execOp, Act.eval, s39]) ⟨_, rfl, tab_put rfl hs rfl rfl, hS.same 5 rfl⟩
     ·
      have s40 : ax.tmps.getD 40 undef = .bool true := (hdone 0 _ rfl rfl).2 _ rfl
      exact wpOp_val (v := .bool true) (w' := wx) rfl rfl (by simp [execOp, Act.eval, s40]) ⟨_, rfl, tab_put rfl hs rfl rfl, hS.same 6 rfl⟩
   intro a7 w7 fl d7 z7 rest7 R7 hfl hS
   obtain ⟨B7, n7, hBs, hAs, hPs⟩ := hS.finish hfl rfl
   replace d7 := d7.trans d6
   replace z7 := z7.trans z6
   obtain ⟨⟨-, b_g1_7⟩, ⟨-, b_g2_7⟩, ⟨-, b_g3_7⟩, ⟨-, b_g4_7⟩, ⟨-, b_g5_7⟩, -⟩ := hBs
   have s6_7 := (rest7 6 (not_of (by kernel_rfl))).trans s6_6
   have s7_7 := (rest7 7 (not_of (by kernel_rfl))).trans s7_6
   have s8_7 := (rest7 8 (not_of (by kernel_rfl))).trans s8_6
   have s9_7 := (rest7 9 (not_of (by kernel_rfl))).trans s9_6
   have s10_7 : a7.tmps.getD 10 undef = .int .u64 (Rg.oneV ⟨⟨p, q⟩, ⟨r, t⟩⟩) := R7 5 _ rfl
   have s11_7 : a7.tmps.getD 11 undef = .bool true := R7 6 _ rfl
   clear R7 rest7 hS hfl hPs hAs
   clear s5_6 s6_6 s7_6 s8_6 s9_6 s25_6 s34_6 b_g1_6 b_g2_6 b_g3_6 b_g4_6 b_g5_6 d6 z6
   refine wp_seq ?_
   refine wp_regx (SX W w7.heap.size [⟨g1, 60, (cR a b c d), none, #[]⟩, ⟨g2, 60, (cR p q r t), none, #[]⟩, ⟨g3, 60, (cR 0 0 0 0), none, #[]⟩, ⟨g4, 95, (cU a b), none, #[]⟩, ⟨g5, 99, (cS c d), none, #[]⟩] []) (TabX [fun vx => vx = .bool true]) (by kernel_rfl) (back_of (by kernel_rfl)) (dst_of (by kernel_rfl)) (in_ofz (by kernel_rfl) z7) (fun fl w1 hfl hw => SX.start' hw B7 hfl rfl ⟨b_g1_7, b_g2_7, b_g3_7, b_g4_7, b_g5_7, trivial⟩) ?h17 ?_
   case h17 =>
     intro ix ox ax wx fl ho hS hfi clo hsz hrest hdone hund
     have t11 := (hrest 11 (not_of (by kernel_rfl))).trans s11_7
     have hs : ax.tmps.size = 105 := hsz.trans z7
     have hi : ix < 1 := (Array.getElem?_eq_some_iff.1 ho).1
     clear hrest hsz hund
     obtain rfl : ix = 0 := by omega
     all_goals obtain rfl := Option.some.inj (show some _ = some ox from ho)
     ·
      exact wpOp_val (v := .bool true) (w' := wx) rfl rfl (by simp [execOp, Act.eval, t11]) ⟨_, rfl, tab_put rfl hs rfl rfl, hS.same 0 rfl⟩
   intro a8 w8 fl d8 z8 rest8 R8 hfl hS
   obtain ⟨B8, n8, hBs, hAs, hPs⟩ := hS.finish hfl rfl
   replace d8 := d8.trans d7
   replace z8 := z8.trans z7
   obtain ⟨⟨-, b_g1_8⟩, ⟨-, b_g2_8⟩, ⟨-, b_g3_8⟩, ⟨-, b_g4_8⟩, ⟨-, b_g5_8⟩, -⟩ := hBs
   have s6_8 := (rest8 6 (not_of (by kernel_rfl))).trans s6_7
   have s7_8 := (rest8 7 (not_of (by kernel_rfl))).trans s7_7
   have s8_8 := (rest8 8 (not_of (by kernel_rfl))).trans s8_7
   have s9_8 := (rest8 9 (not_of (by kernel_rfl))).trans s9_7
   have s10_8 := (rest8 10 (not_of (by kernel_rfl))).trans s10_7
   have s41_8 : a8.tmps.getD 41 undef = .bool true := R8 0 _ rfl
   clear R8 rest8 hS hfl hPs hAs
   clear s6_7 s7_7 s8_7 s9_7 s10_7 s11_7 b_g1_7 b_g2_7 b_g3_7 b_g4_7 b_g5_7 d7 z7
   refine wp_cond_true (show a8.tmps.getD 41 undef = .bool true from s41_8) ?_
   refine wp_regx (SX W w8.heap.size [⟨g1, 60, (cR a b c d), none, #[]⟩, ⟨g2, 60, (cR p q r t), none, #[]⟩, ⟨g3, 60, (cR 0 0 0 0), none, #[]⟩, ⟨g4, 95, (cU a b), some 7, (cU ((Pr.without ⟨a, b⟩ (Rg.oneV ⟨⟨p, q⟩, ⟨r, t⟩⟩)).lo) ((Pr.without ⟨a, b⟩ (Rg.oneV ⟨⟨p, q⟩, ⟨r, t⟩⟩)).hi))⟩, ⟨g5, 99, (cS c d), some 8, (cS ((Pr.without ⟨c, d⟩ (sg (Rg.oneV ⟨⟨p, q⟩, ⟨r, t⟩⟩))).lo) ((Pr.without ⟨c, d⟩ (sg (Rg.oneV ⟨⟨p, q⟩, ⟨r, t⟩⟩))).hi))⟩] []) (TabX [fun vx => vx = .agg #[.int .u64 a, .int .u64 b], fun vx => vx = .int .u64 (Rg.oneV ⟨⟨p, q⟩, ⟨r, t⟩⟩), fun vx => vx = .agg #[.int .u64 ((Pr.without ⟨a, b⟩ (Rg.oneV ⟨⟨p, q⟩, ⟨r, t⟩⟩)).lo), .int .u64 ((Pr.without ⟨a, b⟩ (Rg.oneV ⟨⟨p, q⟩, ⟨r, t⟩⟩)).hi)], fun vx => vx = .agg #[.int .i64 c, .int .i64 d], fun vx => vx = .int .u64 (Rg.oneV ⟨⟨p, q⟩, ⟨r, t⟩⟩), fun vx => vx = .int .i64 (sg (Rg.oneV ⟨⟨p, q⟩, ⟨r, t⟩⟩)), fun vx => vx = .agg #[.int .i64 ((Pr.without ⟨c, d⟩ (sg (Rg.oneV ⟨⟨p, q⟩, ⟨r, t⟩⟩))).lo), .int .i64 ((Pr.without ⟨c, d⟩ (sg (Rg.oneV ⟨⟨p, q⟩, ⟨r, t⟩⟩))).hi)], fun _ => True, fun _ => True]) (by kernel_rfl) (back_of (by kernel_rfl)) (dst_of (by kernel_rfl)) (in_ofz (by kernel_rfl) z8) (fun fl w1 hfl hw => SX.start' hw B8 hfl rfl ⟨b_g1_8, b_g2_8, b_g3_8, b_g4_8, b_g5_8, trivial⟩) ?h18 ?_
   case h18 =>
     intro ix ox ax wx fl ho hS hfi clo hsz hrest hdone hund
     have t8 := (hrest 8 (not_of (by kernel_rfl))).trans s8_8
     have t9 := (hrest 9 (not_of (by kernel_rfl))).trans s9_8
     have t10 := (hrest 10 (not_of (by kernel_rfl))).trans s10_8
     have hs : ax.tmps.size = 105 := hsz.trans z8
     have hi : ix < 9 := (Array.getElem?_eq_some_iff.1 ho).1
     clear hrest hsz hund
     obtain rfl | rfl | rfl | rfl | rfl | rfl | rfl | rfl | rfl : ix = 0 ∨ ix = 1 ∨ ix = 2 ∨ ix = 3 ∨ ix = 4 ∨ ix = 5 ∨ ix = 6 ∨ ix = 7 ∨ ix = 8 := by omega
     all_goals obtain rfl := Option.some.inj (show some _ = some ox from ho)
     ·
      have hr := hS.rowFi 3 rfl (not_yet clo hfi (by kernel_rfl))
      exact wpOp_val (v := .agg #[.int .u64 a, .int .u64 b]) (w' := wx) rfl rfl (exec_loadR 95 _ rfl g4 0 (show ax.eval (.tmp 8) = .pointer (some ⟨g4, 0, none⟩) from t8) hr [.int .u64 a, .int .u64 b] rfl _ Try.underlying95 rfl (by kernel_rfl)) ⟨_, rfl, tab_put rfl hs rfl rfl, hS.same 0 rfl⟩
     ·
      exact wpOp_val (v := .int .u64 (Rg.oneV ⟨⟨p, q⟩, ⟨r, t⟩⟩)) (w' := wx) rfl rfl (by simp [execOp, Act.eval, t10]) ⟨_, rfl, tab_put rfl hs rfl rfl, hS.same 1 rfl⟩
     ·
      have s42 : ax.tmps.getD 42 undef = .agg #[.int .u64 a, .int .u64 b] := (hdone 0 _ rfl rfl).2 _ rfl
      have s43 : ax.tmps.getD 43 undef = .int .u64 (Rg.oneV ⟨⟨p, q⟩, ⟨r, t⟩⟩) := (hdone 1 _ rfl rfl).2 _ rfl
      refine wpOp_call (args := #[.agg #[.int .u64 a, .int .u64 b], .int .u64 (Rg.oneV ⟨⟨p, q⟩, ⟨r, t⟩⟩)]) rfl rfl (exec_call rfl rfl rfl (args2 (show ax.eval (.tmp 42) = .agg #[.int .u64 a, .int .u64 b] from s42) (show ax.eval (.tmp 43) = .int .u64 (Rg.oneV ⟨⟨p, q⟩, ⟨r, t⟩⟩) from s43)) Try.func65 (by decide +kernel) rfl) ?_
      · refine (withoutU_n a b (Rg.oneV ⟨⟨p, q⟩, ⟨r, t⟩⟩) wx HA.out.1 ((may_iff ⟨⟨a, b⟩, ⟨c, d⟩⟩).1 Ffk1.out).1).mono ?_
        rintro e w' ⟨rfl, b9⟩
        exact ⟨_, rfl, _, rfl, tab_put rfl hs rfl rfl, hS.quiet 2 rfl b9⟩
     ·
      have hr := hS.rowFi 4 rfl (not_yet clo hfi (by kernel_rfl))
      exact wpOp_val (v := .agg #[.int .i64 c, .int .i64 d]) (w' := wx) rfl rfl (exec_loadR 99 _ rfl g5 0 (show ax.eval (.tmp 9) = .pointer (some ⟨g5, 0, none⟩) from t9) hr [.int .i64 c, .int .i64 d] rfl _ Try.underlying99 rfl (by kernel_rfl)) ⟨_, rfl, tab_put rfl hs rfl rfl, hS.same 3 rfl⟩
     ·
      exact wpOp_val (v := .int .u64 (Rg.oneV ⟨⟨p, q⟩, ⟨r, t⟩⟩)) (w' := wx) rfl rfl (by simp [execOp, Act.eval, t10]) ⟨_, rfl, tab_put rfl hs rfl rfl, hS.same 4 rfl⟩
     ·
      have s46 : ax.tmps.getD 46 undef = .int .u64 (Rg.oneV ⟨⟨p, q⟩, ⟨r, t⟩⟩) := (hdone 0 _ rfl rfl).2 _ rfl
      exact wpOp_val (v := .int .i64 (wrap64 (Rg.oneV ⟨⟨p, q⟩, ⟨r, t⟩⟩))) (w' := wx) rfl rfl (by (simp [execOp, Act.eval, s46, go_sem]; try (simp only [IntKind.wrap_i64, wrap64]))) ⟨_, rfl, tab_put rfl hs rfl (congrArg (Value.int .i64) (wrap_sg (Rg.oneV ⟨⟨p, q⟩, ⟨r, t⟩⟩))), hS.same 5 rfl⟩
     ·
      have s45 : ax.tmps.getD 45 undef = .agg #[.int .i64 c, .int .i64 d] := (hdone 0 _ rfl rfl).2 _ rfl
      have s47 : ax.tmps.getD 47 undef = .int .i64 (sg (Rg.oneV ⟨⟨p, q⟩, ⟨r, t⟩⟩)) := (hdone 1 _ rfl rfl).2 _ rfl
      refine wpOp_call (args := #[.agg #[.int .i64 c, .int .i64 d], .int .i64 (sg (Rg.oneV ⟨⟨p, q⟩, ⟨r, t⟩⟩))]) rfl rfl (exec_call rfl rfl rfl (args2 (show ax.eval (.tmp 45) = .agg #[.int .i64 c, .int .i64 d] from s45) (show ax.eval (.tmp 47) = .int .i64 (sg (Rg.oneV ⟨⟨p, q⟩, ⟨r, t⟩⟩)) from s47)) Try.func66 (by decide +kernel) rfl) ?_
      · refine (withoutS_n c d (sg (Rg.oneV ⟨⟨p, q⟩, ⟨r, t⟩⟩)) wx HA.out.2 ((may_iff ⟨⟨a, b⟩, ⟨c, d⟩⟩).1 Ffk1.out).2).mono ?_
        rintro e w' ⟨rfl, b9⟩
        exact ⟨_, rfl, _, rfl, tab_put rfl hs rfl rfl, hS.quiet 6 rfl b9⟩
     ·
      have s44 : ax.tmps.getD 44 undef = .agg #[.int .u64 ((Pr.without ⟨a, b⟩ (Rg.oneV ⟨⟨p, q⟩, ⟨r, t⟩⟩)).lo), .int .u64 ((Pr.without ⟨a, b⟩ (Rg.oneV ⟨⟨p, q⟩, ⟨r, t⟩⟩)).hi)] := (hdone 0 _ rfl rfl).2 _ rfl
      have hr := hS.rowFi 3 rfl hfi
      exact wpOp_skp (w' := wx.setRow g4 #[.int .u64 ((Pr.without ⟨a, b⟩ (Rg.oneV ⟨⟨p, q⟩, ⟨r, t⟩⟩)).lo), .int .u64 ((Pr.without ⟨a, b⟩ (Rg.oneV ⟨⟨p, q⟩, ⟨r, t⟩⟩)).hi)]) rfl rfl (exec_storeR 95 _ _ rfl g4 #[.int .u64 ((Pr.without ⟨a, b⟩ (Rg.oneV ⟨⟨p, q⟩, ⟨r, t⟩⟩)).lo), .int .u64 ((Pr.without ⟨a, b⟩ (Rg.oneV ⟨⟨p, q⟩, ⟨r, t⟩⟩)).hi)] (show ax.eval (.tmp 8) = .pointer (some ⟨g4, 0, none⟩) from t8) (show ax.eval (.tmp 44) = .agg #[.int .u64 ((Pr.without ⟨a, b⟩ (Rg.oneV ⟨⟨p, q⟩, ⟨r, t⟩⟩)).lo), .int .u64 ((Pr.without ⟨a, b⟩ (Rg.oneV ⟨⟨p, q⟩, ⟨r, t⟩⟩)).hi)] from s44) hr (by kernel_rfl) rfl (by simp [Value.oneCell'])) ⟨undef, rfl, trivial, hS.storeBi 7 3 rfl q_g4 rfl ⟨(show g1 ≠ g4 by omega), (show g2 ≠ g4 by omega), (show g3 ≠ g4 by omega), (show g5 ≠ g4 by omega), trivial⟩ (stored_setRow wx g4 _ _ _ hr)⟩
     ·
      have s48 : ax.tmps.getD 48 undef = .agg #[.int .i64 ((Pr.without ⟨c, d⟩ (sg (Rg.oneV ⟨⟨p, q⟩, ⟨r, t⟩⟩))).lo), .int .i64 ((Pr.without ⟨c, d⟩ (sg (Rg.oneV ⟨⟨p, q⟩, ⟨r, t⟩⟩))).hi)] := (hdone 0 _ rfl rfl).2 _ rfl
      have hr := hS.rowFi 4 rfl hfi
      exact wpOp_skp (w' := wx.setRow g5 #[.int .i64 ((Pr.without ⟨c, d⟩ (sg (Rg.oneV ⟨⟨p, q⟩, ⟨r, t⟩⟩))).lo), .int .i64 ((Pr.without ⟨c, d⟩ (sg (Rg.oneV ⟨⟨p, q⟩, ⟨r, t⟩⟩))).hi)]) rfl rfl (exec_storeR 99 _ _ rfl g5 #[.int .i64 ((Pr.without ⟨c, d⟩ (sg (Rg.oneV ⟨⟨p, q⟩, ⟨r, t⟩⟩))).lo), .int .i64 ((Pr.without ⟨c, d⟩ (sg (Rg.oneV ⟨⟨p, q⟩, ⟨r, t⟩⟩))).hi)] (show ax.eval (.tmp 9) = .pointer (some ⟨g5, 0, none⟩) from t9) (show ax.eval (.tmp 48) = .agg #[.int .i64 ((Pr.without ⟨c, d⟩ (sg (Rg.oneV ⟨⟨p, q⟩, ⟨r, t⟩⟩))).lo), .int .i64 ((Pr.without ⟨c, d⟩ (sg (Rg.oneV ⟨⟨p, q⟩, ⟨r, t⟩⟩))).hi)] from s48) hr (by kernel_rfl) rfl (by simp [Value.oneCell'])) ⟨undef, rfl, trivial, hS.storeBi 8 4 rfl q_g5 rfl ⟨(show g1 ≠ g5 by omega), (show g2 ≠ g5 by omega), (show g3 ≠ g5 by omega), (show g4 ≠ g5 by omega), trivial⟩ (stored_setRow wx g5 _ _ _ hr)⟩
   intro a9 w9 fl d9 z9 rest9 R9 hfl hS
   obtain ⟨B9, n9, hBs, hAs, hPs⟩ := hS.finish hfl rfl
   replace d9 := d9.trans d8
   replace z9 := z9.trans z8
   obtain ⟨⟨-, b_g1_9⟩, ⟨-, b_g2_9⟩, ⟨-, b_g3_9⟩, ⟨-, b_g4_9⟩, ⟨-, b_g5_9⟩, -⟩ := hBs
   have s6_9 := (rest9 6 (not_of (by kernel_rfl))).trans s6_8
   have s7_9 := (rest9 7 (not_of (by kernel_rfl))).trans s7_8
   have s8_9 := (rest9 8 (not_of (by kernel_rfl))).trans s8_8
   have s9_9 := (rest9 9 (not_of (by kernel_rfl))).trans s9_8
   clear R9 rest9 hS hfl hPs hAs
   clear s6_8 s7_8 s8_8 s9_8 s10_8 s41_8 b_g1_8 b_g2_8 b_g3_8 b_g4_8 b_g5_8 d8 z8
   refine wp_seq ?_
   refine wp_regx (SX W w9.heap.size [⟨g1, 60, (cR a b c d), none, #[]⟩, ⟨g2, 60, (cR p q r t), none, #[]⟩, ⟨g3, 60, (cR 0 0 0 0), some 6, (cR ((Rg.nar ⟨Pr.without ⟨a, b⟩ (Rg.oneV ⟨⟨p, q⟩, ⟨r, t⟩⟩), Pr.without ⟨c, d⟩ (sg (Rg.oneV ⟨⟨p, q⟩, ⟨r, t⟩⟩))⟩).u.lo) ((Rg.nar ⟨Pr.without ⟨a, b⟩ (Rg.oneV ⟨⟨p, q⟩, ⟨r, t⟩⟩), Pr.without ⟨c, d⟩ (sg (Rg.oneV ⟨⟨p, q⟩, ⟨r, t⟩⟩))⟩).u.hi) ((Rg.nar ⟨Pr.without ⟨a, b⟩ (Rg.oneV ⟨⟨p, q⟩, ⟨r, t⟩⟩), Pr.without ⟨c, d⟩ (sg (Rg.oneV ⟨⟨p, q⟩, ⟨r, t⟩⟩))⟩).s.lo) ((Rg.nar ⟨Pr.without ⟨a, b⟩ (Rg.oneV ⟨⟨p, q⟩, ⟨r, t⟩⟩), Pr.without ⟨c, d⟩ (sg (Rg.oneV ⟨⟨p, q⟩, ⟨r, t⟩⟩))⟩).s.hi))⟩, ⟨g4, 95, (cU ((Pr.without ⟨a, b⟩ (Rg.oneV ⟨⟨p, q⟩, ⟨r, t⟩⟩)).lo) ((Pr.without ⟨a, b⟩ (Rg.oneV ⟨⟨p, q⟩, ⟨r, t⟩⟩)).hi)), none, #[]⟩, ⟨g5, 99, (cS ((Pr.without ⟨c, d⟩ (sg (Rg.oneV ⟨⟨p, q⟩, ⟨r, t⟩⟩))).lo) ((Pr.without ⟨c, d⟩ (sg (Rg.oneV ⟨⟨p, q⟩, ⟨r, t⟩⟩))).hi)), none, #[]⟩] []) (TabX [fun vx => vx = .agg #[.int .u64 ((Pr.without ⟨a, b⟩ (Rg.oneV ⟨⟨p, q⟩, ⟨r, t⟩⟩)).lo), .int .u64 ((Pr.without ⟨a, b⟩ (Rg.oneV ⟨⟨p, q⟩, ⟨r, t⟩⟩)).hi)], fun vx => vx = .agg #[.int .i64 ((Pr.without ⟨c, d⟩ (sg (Rg.oneV ⟨⟨p, q⟩, ⟨r, t⟩⟩))).lo), .int .i64 ((Pr.without ⟨c, d⟩ (sg (Rg.oneV ⟨⟨p, q⟩, ⟨r, t⟩⟩))).hi)], fun vx => vx = .agg #[.int .u64 ((Pr.without ⟨a, b⟩ (Rg.oneV ⟨⟨p, q⟩, ⟨r, t⟩⟩)).lo), .int .u64 ((Pr.without ⟨a, b⟩ (Rg.oneV ⟨⟨p, q⟩, ⟨r, t⟩⟩)).hi), .int .i64 ((Pr.without ⟨c, d⟩ (sg (Rg.oneV ⟨⟨p, q⟩, ⟨r, t⟩⟩))).lo), .int .i64 ((Pr.without ⟨c, d⟩ (sg (Rg.oneV ⟨⟨p, q⟩, ⟨r, t⟩⟩))).hi)], fun vx => vx = .tuple #[.agg #[.int .u64 ((Rg.nar ⟨Pr.without ⟨a, b⟩ (Rg.oneV ⟨⟨p, q⟩, ⟨r, t⟩⟩), Pr.without ⟨c, d⟩ (sg (Rg.oneV ⟨⟨p, q⟩, ⟨r, t⟩⟩))⟩).u.lo), .int .u64 ((Rg.nar ⟨Pr.without ⟨a, b⟩ (Rg.oneV ⟨⟨p, q⟩, ⟨r, t⟩⟩), Pr.without ⟨c, d⟩ (sg (Rg.oneV ⟨⟨p, q⟩, ⟨r, t⟩⟩))⟩).u.hi), .int .i64 ((Rg.nar ⟨Pr.without ⟨a, b⟩ (Rg.oneV ⟨⟨p, q⟩, ⟨r, t⟩⟩), Pr.without ⟨c, d⟩ (sg (Rg.oneV ⟨⟨p, q⟩, ⟨r, t⟩⟩))⟩).s.lo), .int .i64 ((Rg.nar ⟨Pr.without ⟨a, b⟩ (Rg.oneV ⟨⟨p, q⟩, ⟨r, t⟩⟩), Pr.without ⟨c, d⟩ (sg (Rg.oneV ⟨⟨p, q⟩, ⟨r, t⟩⟩))⟩).s.hi)], .bool (Rg.narB ⟨Pr.without ⟨a, b⟩ (Rg.oneV ⟨⟨p, q⟩, ⟨r, t⟩⟩), Pr.without ⟨c, d⟩ (sg (Rg.oneV ⟨⟨p, q⟩, ⟨r, t⟩⟩))⟩)], fun vx => vx = .agg #[.int .u64 ((Rg.nar ⟨Pr.without ⟨a, b⟩ (Rg.oneV ⟨⟨p, q⟩, ⟨r, t⟩⟩), Pr.without ⟨c, d⟩ (sg (Rg.oneV ⟨⟨p, q⟩, ⟨r, t⟩⟩))⟩).u.lo), .int .u64 ((Rg.nar ⟨Pr.without ⟨a, b⟩ (Rg.oneV ⟨⟨p, q⟩, ⟨r, t⟩⟩), Pr.without ⟨c, d⟩ (sg (Rg.oneV ⟨⟨p, q⟩, ⟨r, t⟩⟩))⟩).u.hi), .int .i64 ((Rg.nar ⟨Pr.without ⟨a, b⟩ (Rg.oneV ⟨⟨p, q⟩, ⟨r, t⟩⟩), Pr.without ⟨c, d⟩ (sg (Rg.oneV ⟨⟨p, q⟩, ⟨r, t⟩⟩))⟩).s.lo), .int .i64 ((Rg.nar ⟨Pr.without ⟨a, b⟩ (Rg.oneV ⟨⟨p, q⟩, ⟨r, t⟩⟩), Pr.without ⟨c, d⟩ (sg (Rg.oneV ⟨⟨p, q⟩, ⟨r, t⟩⟩))⟩).s.hi)], fun vx => vx = .bool (Rg.narB ⟨Pr.without ⟨a, b⟩ (Rg.oneV ⟨⟨p, q⟩, ⟨r, t⟩⟩), Pr.without ⟨c, d⟩ (sg (Rg.oneV ⟨⟨p, q⟩, ⟨r, t⟩⟩))⟩), fun _ => True, fun vx => vx = .bool (Rg.narB ⟨Pr.without ⟨a, b⟩ (Rg.oneV ⟨⟨p, q⟩, ⟨r, t⟩⟩), Pr.without ⟨c, d⟩ (sg (Rg.oneV ⟨⟨p, q⟩, ⟨r, t⟩⟩))⟩)]) (by kernel_rfl) (back_of (by kernel_rfl)) (dst_of (by kernel_rfl)) (in_ofz (by kernel_rfl) z9) (fun fl w1 hfl hw => SX.start' hw B9 hfl rfl ⟨b_g1_9, b_g2_9, b_g3_9, b_g4_9, b_g5_9, trivial⟩) ?h19 ?_
   case h19 =>
     intro ix ox ax wx fl ho hS hfi clo hsz hrest hdone hund
     have t6 := (hrest 6 (not_of (by kernel_rfl))).trans s6_9
     have t8 := (hrest 8 (not_of (by kernel_rfl))).trans s8_9
     have t9 := (hrest 9 (not_of (by kernel_rfl))).trans s9_9
     have hs : ax.tmps.size = 105 := hsz.trans z9
     have hi : ix < 8 := (Array.getElem?_eq_some_iff.1 ho).1
     clear hrest hsz hund
     obtain rfl | rfl | rfl | rfl | rfl | rfl | rfl | rfl : ix = 0 ∨ ix = 1 ∨ ix = 2 ∨ ix = 3 ∨ ix = 4 ∨ ix = 5 ∨ ix = 6 ∨ ix = 7 := by omega
     all_goals obtain rfl := Option.some.inj (show some _ = some ox from ho)
     ·
      have hr := hS.rowNi 3 rfl
      exact wpOp_val (v := .agg #[.int .u64 ((Pr.without ⟨a, b⟩ (Rg.oneV ⟨⟨p, q⟩, ⟨r, t⟩⟩)).lo), .int .u64 ((Pr.without ⟨a, b⟩ (Rg.oneV ⟨⟨p, q⟩, ⟨r, t⟩⟩)).hi)]) (w' := wx) rfl rfl (exec_loadR 95 _ rfl g4 0 (show ax.eval (.tmp 8) = .pointer (some ⟨g4, 0, none⟩) from t8) hr [.int .u64 ((Pr.without ⟨a, b⟩ (Rg.oneV ⟨⟨p, q⟩, ⟨r, t⟩⟩)).lo), .int .u64 ((Pr.without ⟨a, b⟩ (Rg.oneV ⟨⟨p, q⟩, ⟨r, t⟩⟩)).hi)] rfl _ Try.underlying95 rfl (by kernel_rfl)) ⟨_, rfl, tab_put rfl hs rfl rfl, hS.same 0 rfl⟩
     ·
      have hr := hS.rowNi 4 rfl
      exact wpOp_val (v := .agg #[.int .i64 ((Pr.without ⟨c, d⟩ (sg (Rg.oneV ⟨⟨p, q⟩, ⟨r, t⟩⟩))).lo), .int .i64 ((Pr.without ⟨c, d⟩ (sg (Rg.oneV ⟨⟨p, q⟩, ⟨r, t⟩⟩))).hi)]) (w' := wx) rfl rfl (exec_loadR 99 _ rfl g5 0 (show ax.eval (.tmp 9) = .pointer (some ⟨g5, 0, none⟩) from t9) hr [.int .i64 ((Pr.without ⟨c, d⟩ (sg (Rg.oneV ⟨⟨p, q⟩, ⟨r, t⟩⟩))).lo), .int .i64 ((Pr.without ⟨c, d⟩ (sg (Rg.oneV ⟨⟨p, q⟩, ⟨r, t⟩⟩))).hi)] rfl _ Try.underlying99 rfl (by kernel_rfl)) ⟨_, rfl, tab_put rfl hs rfl rfl, hS.same 1 rfl⟩
     ·
      have s99 : ax.tmps.getD 99 undef = .agg #[.int .u64 ((Pr.without ⟨a, b⟩ (Rg.oneV ⟨⟨p, q⟩, ⟨r, t⟩⟩)).lo), .int .u64 ((Pr.without ⟨a, b⟩ (Rg.oneV ⟨⟨p, q⟩, ⟨r, t⟩⟩)).hi)] := (hdone 0 _ rfl rfl).2 _ rfl
      have s100 : ax.tmps.getD 100 undef = .agg #[.int .i64 ((Pr.without ⟨c, d⟩ (sg (Rg.oneV ⟨⟨p, q⟩, ⟨r, t⟩⟩))).lo), .int .i64 ((Pr.without ⟨c, d⟩ (sg (Rg.oneV ⟨⟨p, q⟩, ⟨r, t⟩⟩))).hi)] := (hdone 1 _ rfl rfl).2 _ rfl
      refine wpOp_call (args := #[.agg #[.int .u64 ((Pr.without ⟨a, b⟩ (Rg.oneV ⟨⟨p, q⟩, ⟨r, t⟩⟩)).lo), .int .u64 ((Pr.without ⟨a, b⟩ (Rg.oneV ⟨⟨p, q⟩, ⟨r, t⟩⟩)).hi)], .agg #[.int .i64 ((Pr.without ⟨c, d⟩ (sg (Rg.oneV ⟨⟨p, q⟩, ⟨r, t⟩⟩))).lo), .int .i64 ((Pr.without ⟨c, d⟩ (sg (Rg.oneV ⟨⟨p, q⟩, ⟨r, t⟩⟩))).hi)]]) rfl rfl (exec_call rfl rfl rfl (args2 (show ax.eval (.tmp 99) = .agg #[.int .u64 ((Pr.without ⟨a, b⟩ (Rg.oneV ⟨⟨p, q⟩, ⟨r, t⟩⟩)).lo), .int .u64 ((Pr.without ⟨a, b⟩ (Rg.oneV ⟨⟨p, q⟩, ⟨r, t⟩⟩)).hi)] from s99) (show ax.eval (.tmp 100) = .agg #[.int .i64 ((Pr.without ⟨c, d⟩ (sg (Rg.oneV ⟨⟨p, q⟩, ⟨r, t⟩⟩))).lo), .int .i64 ((Pr.without ⟨c, d⟩ (sg (Rg.oneV ⟨⟨p, q⟩, ⟨r, t⟩⟩))).hi)] from s100)) Try.func60 (by decide +kernel) rfl) ?_
      · refine (both_n ((Pr.without ⟨a, b⟩ (Rg.oneV ⟨⟨p, q⟩, ⟨r, t⟩⟩)).lo) ((Pr.without ⟨a, b⟩ (Rg.oneV ⟨⟨p, q⟩, ⟨r, t⟩⟩)).hi) ((Pr.without ⟨c, d⟩ (sg (Rg.oneV ⟨⟨p, q⟩, ⟨r, t⟩⟩))).lo) ((Pr.without ⟨c, d⟩ (sg (Rg.oneV ⟨⟨p, q⟩, ⟨r, t⟩⟩))).hi) wx).mono ?_
        rintro e w' ⟨rfl, b9⟩
        exact ⟨_, rfl, _, rfl, tab_put rfl hs rfl rfl, hS.quiet 2 rfl b9⟩
     ·
      have s101 : ax.tmps.getD 101 undef = .agg #[.int .u64 ((Pr.without ⟨a, b⟩ (Rg.oneV ⟨⟨p, q⟩, ⟨r, t⟩⟩)).lo), .int .u64 ((Pr.without ⟨a, b⟩ (Rg.oneV ⟨⟨p, q⟩, ⟨r, t⟩⟩)).hi), .int .i64 ((Pr.without ⟨c, d⟩ (sg (Rg.oneV ⟨⟨p, q⟩, ⟨r, t⟩⟩))).lo), .int .i64 ((Pr.without ⟨c, d⟩ (sg (Rg.oneV ⟨⟨p, q⟩, ⟨r, t⟩⟩))).hi)] := (hdone 0 _ rfl rfl).2 _ rfl
      refine wpOp_call (args := #[.agg #[.int .u64 ((Pr.without ⟨a, b⟩ (Rg.oneV ⟨⟨p, q⟩, ⟨r, t⟩⟩)).lo), .int .u64 ((Pr.without ⟨a, b⟩ (Rg.oneV ⟨⟨p, q⟩, ⟨r, t⟩⟩)).hi), .int .i64 ((Pr.without ⟨c, d⟩ (sg (Rg.oneV ⟨⟨p, q⟩, ⟨r, t⟩⟩))).lo), .int .i64 ((Pr.without ⟨c, d⟩ (sg (Rg.oneV ⟨⟨p, q⟩, ⟨r, t⟩⟩))).hi)]]) rfl rfl (exec_call rfl rfl rfl (args1 (show ax.eval (.tmp 101) = .agg #[.int .u64 ((Pr.without ⟨a, b⟩ (Rg.oneV ⟨⟨p, q⟩, ⟨r, t⟩⟩)).lo), .int .u64 ((Pr.without ⟨a, b⟩ (Rg.oneV ⟨⟨p, q⟩, ⟨r, t⟩⟩)).hi), .int .i64 ((Pr.without ⟨c, d⟩ (sg (Rg.oneV ⟨⟨p, q⟩, ⟨r, t⟩⟩))).lo), .int .i64 ((Pr.without ⟨c, d⟩ (sg (Rg.oneV ⟨⟨p, q⟩, ⟨r, t⟩⟩))).hi)] from s101)) Try.func28 (by decide +kernel) rfl) ?_
      · refine (narrow_n ((Pr.without ⟨a, b⟩ (Rg.oneV ⟨⟨p, q⟩, ⟨r, t⟩⟩)).lo) ((Pr.without ⟨a, b⟩ (Rg.oneV ⟨⟨p, q⟩, ⟨r, t⟩⟩)).hi) ((Pr.without ⟨c, d⟩ (sg (Rg.oneV ⟨⟨p, q⟩, ⟨r, t⟩⟩))).lo) ((Pr.without ⟨c, d⟩ (sg (Rg.oneV ⟨⟨p, q⟩, ⟨r, t⟩⟩))).hi) wx (by have hh := (giv_ok cc (a := ⟨⟨a, b⟩, ⟨c, d⟩⟩) (b := ⟨⟨p, q⟩, ⟨r, t⟩⟩) HA.out HB.out Ffk1.out); unfold givC at hh; simp only [if_neg (nb Ffk3.out), if_pos (yb Ffk4.out), if_pos (show Rg.oneB ⟨⟨p, q⟩, ⟨r, t⟩⟩ = true from Ffk5.out)] at hh; exact hh)).mono ?_
        rintro e w' ⟨rfl, b9⟩
        exact ⟨_, rfl, _, rfl, tab_put rfl hs rfl rfl, hS.quiet 3 rfl b9⟩
     ·
      have s102 : ax.tmps.getD 102 undef = .tuple #[.agg #[.int .u64 ((Rg.nar ⟨Pr.without ⟨a, b⟩ (Rg.oneV ⟨⟨p, q⟩, ⟨r, t⟩⟩), Pr.without ⟨c, d⟩ (sg (Rg.oneV ⟨⟨p, q⟩, ⟨r, t⟩⟩))⟩).u.lo), .int .u64 ((Rg.nar ⟨Pr.without ⟨a, b⟩ (Rg.oneV ⟨⟨p, q⟩, ⟨r, t⟩⟩), Pr.without ⟨c, d⟩ (sg (Rg.oneV ⟨⟨p, q⟩, ⟨r, t⟩⟩))⟩).u.hi), .int .i64 ((Rg.nar ⟨Pr.without ⟨a, b⟩ (Rg.oneV ⟨⟨p, q⟩, ⟨r, t⟩⟩), Pr.without ⟨c, d⟩ (sg (Rg.oneV ⟨⟨p, q⟩, ⟨r, t⟩⟩))⟩).s.lo), .int .i64 ((Rg.nar ⟨Pr.without ⟨a, b⟩ (Rg.oneV ⟨⟨p, q⟩, ⟨r, t⟩⟩), Pr.without ⟨c, d⟩ (sg (Rg.oneV ⟨⟨p, q⟩, ⟨r, t⟩⟩))⟩).s.hi)], .bool (Rg.narB ⟨Pr.without ⟨a, b⟩ (Rg.oneV ⟨⟨p, q⟩, ⟨r, t⟩⟩), Pr.without ⟨c, d⟩ (sg (Rg.oneV ⟨⟨p, q⟩, ⟨r, t⟩⟩))⟩)] := (hdone 0 _ rfl rfl).2 _ rfl
      exact wpOp_val (v := .agg #[.int .u64 ((Rg.nar ⟨Pr.without ⟨a, b⟩ (Rg.oneV ⟨⟨p, q⟩, ⟨r, t⟩⟩), Pr.without ⟨c, d⟩ (sg (Rg.oneV ⟨⟨p, q⟩, ⟨r, t⟩⟩))⟩).u.lo), .int .u64 ((Rg.nar ⟨Pr.without ⟨a, b⟩ (Rg.oneV ⟨⟨p, q⟩, ⟨r, t⟩⟩), Pr.without ⟨c, d⟩ (sg (Rg.oneV ⟨⟨p, q⟩, ⟨r, t⟩⟩))⟩).u.hi), .int .i64 ((Rg.nar ⟨Pr.without ⟨a, b⟩ (Rg.oneV ⟨⟨p, q⟩, ⟨r, t⟩⟩), Pr.without ⟨c, d⟩ (sg (Rg.oneV ⟨⟨p, q⟩, ⟨r, t⟩⟩))⟩).s.lo), .int .i64 ((Rg.nar ⟨Pr.without ⟨a, b⟩ (Rg.oneV ⟨⟨p, q⟩, ⟨r, t⟩⟩), Pr.without ⟨c, d⟩ (sg (Rg.oneV ⟨⟨p, q⟩, ⟨r, t⟩⟩))⟩).s.hi)]) (w' := wx) rfl rfl (by simp [execOp, Act.eval, s102, go_sem]) ⟨_, rfl, tab_put rfl hs rfl rfl, hS.same 4 rfl⟩
     ·
      have s102 : ax.tmps.getD 102 undef = .tuple #[.agg #[.int .u64 ((Rg.nar ⟨Pr.without ⟨a, b⟩ (Rg.oneV ⟨⟨p, q⟩, ⟨r, t⟩⟩), Pr.without ⟨c, d⟩ (sg (Rg.oneV ⟨⟨p, q⟩, ⟨r, t⟩⟩))⟩).u.lo), .int .u64 ((Rg.nar ⟨Pr.without ⟨a, b⟩ (Rg.oneV ⟨⟨p, q⟩, ⟨r, t⟩⟩), Pr.without ⟨c, d⟩ (sg (Rg.oneV ⟨⟨p, q⟩, ⟨r, t⟩⟩))⟩).u.hi), .int .i64 ((Rg.nar ⟨Pr.without ⟨a, b⟩ (Rg.oneV ⟨⟨p, q⟩, ⟨r, t⟩⟩), Pr.without ⟨c, d⟩ (sg (Rg.oneV ⟨⟨p, q⟩, ⟨r, t⟩⟩))⟩).s.lo), .int .i64 ((Rg.nar ⟨Pr.without ⟨a, b⟩ (Rg.oneV ⟨⟨p, q⟩, ⟨r, t⟩⟩), Pr.without ⟨c, d⟩ (sg (Rg.oneV ⟨⟨p, q⟩, ⟨r, t⟩⟩))⟩).s.hi)], .bool (Rg.narB ⟨Pr.without ⟨a, b⟩ (Rg.oneV ⟨⟨p, q⟩, ⟨r, t⟩⟩), Pr.without ⟨c, d⟩ (sg (Rg.oneV ⟨⟨p, q⟩, ⟨r, t⟩⟩))⟩)] := (hdone 0 _ rfl rfl).2 _ rfl
      exact wpOp_val (v := .bool (Rg.narB ⟨Pr.without ⟨a, b⟩ (Rg.oneV ⟨⟨p, q⟩, ⟨r, t⟩⟩), Pr.without ⟨c, d⟩ (sg (Rg.oneV ⟨⟨p, q⟩, ⟨r, t⟩⟩))⟩)) (w' := wx) rfl rfl (by simp [execOp, Act.eval, s102, go_sem]) ⟨_, rfl, tab_put rfl hs rfl rfl, hS.same 5 rfl⟩
     ·
      have s103 : ax.tmps.getD 103 undef = .agg #[.int .u64 ((Rg.nar ⟨Pr.without ⟨a, b⟩ (Rg.oneV ⟨⟨p, q⟩, ⟨r, t⟩⟩), Pr.without ⟨c, d⟩ (sg (Rg.oneV ⟨⟨p, q⟩, ⟨r, t⟩⟩))⟩).u.lo), .int .u64 ((Rg.nar ⟨Pr.without ⟨a, b⟩ (Rg.oneV ⟨⟨p, q⟩, ⟨r, t⟩⟩), Pr.without ⟨c, d⟩ (sg (Rg.oneV ⟨⟨p, q⟩, ⟨r, t⟩⟩))⟩).u.hi), .int .i64 ((Rg.nar ⟨Pr.without ⟨a, b⟩ (Rg.oneV ⟨⟨p, q⟩, ⟨r, t⟩⟩), Pr.without ⟨c, d⟩ (sg (Rg.oneV ⟨⟨p, q⟩, ⟨r, t⟩⟩))⟩).s.lo), .int .i64 ((Rg.nar ⟨Pr.without ⟨a, b⟩ (Rg.oneV ⟨⟨p, q⟩, ⟨r, t⟩⟩), Pr.without ⟨c, d⟩ (sg (Rg.oneV ⟨⟨p, q⟩, ⟨r, t⟩⟩))⟩).s.hi)] := (hdone 0 _ rfl rfl).2 _ rfl
      have hr := hS.rowFi 2 rfl hfi
      exact wpOp_skp (w' := wx.setRow g3 #[.int .u64 ((Rg.nar ⟨Pr.without ⟨a, b⟩ (Rg.oneV ⟨⟨p, q⟩, ⟨r, t⟩⟩), Pr.without ⟨c, d⟩ (sg (Rg.oneV ⟨⟨p, q⟩, ⟨r, t⟩⟩))⟩).u.lo), .int .u64 ((Rg.nar ⟨Pr.without ⟨a, b⟩ (Rg.oneV ⟨⟨p, q⟩, ⟨r, t⟩⟩), Pr.without ⟨c, d⟩ (sg (Rg.oneV ⟨⟨p, q⟩, ⟨r, t⟩⟩))⟩).u.hi), .int .i64 ((Rg.nar ⟨Pr.without ⟨a, b⟩ (Rg.oneV ⟨⟨p, q⟩, ⟨r, t⟩⟩), Pr.without ⟨c, d⟩ (sg (Rg.oneV ⟨⟨p, q⟩, ⟨r, t⟩⟩))⟩).s.lo), .int .i64 ((Rg.nar ⟨Pr.without ⟨a, b⟩ (Rg.oneV ⟨⟨p, q⟩, ⟨r, t⟩⟩), Pr.without ⟨c, d⟩ (sg (Rg.oneV ⟨⟨p, q⟩, ⟨r, t⟩⟩))⟩).s.hi)]) rfl rfl (exec_storeR 60 _ _ rfl g3 #[.int .u64 ((Rg.nar ⟨Pr.without ⟨a, b⟩ (Rg.oneV ⟨⟨p, q⟩, ⟨r, t⟩⟩), Pr.without ⟨c, d⟩ (sg (Rg.oneV ⟨⟨p, q⟩, ⟨r, t⟩⟩))⟩).u.lo), .int .u64 ((Rg.nar ⟨Pr.without ⟨a, b⟩ (Rg.oneV ⟨⟨p, q⟩, ⟨r, t⟩⟩), Pr.without ⟨c, d⟩ (sg (Rg.oneV ⟨⟨p, q⟩, ⟨r, t⟩⟩))⟩).u.hi), .int .i64 ((Rg.nar ⟨Pr.without ⟨a, b⟩ (Rg.oneV ⟨⟨p, q⟩, ⟨r, t⟩⟩), Pr.without ⟨c, d⟩ (sg (Rg.oneV ⟨⟨p, q⟩, ⟨r, t⟩⟩))⟩).s.lo), .int .i64 ((Rg.nar ⟨Pr.without ⟨a, b⟩ (Rg.oneV ⟨⟨p, q⟩, ⟨r, t⟩⟩), Pr.without ⟨c, d⟩ (sg (Rg.oneV ⟨⟨p, q⟩, ⟨r, t⟩⟩))⟩).s.hi)] (show ax.eval (.tmp 6) = .pointer (some ⟨g3, 0, none⟩) from t6) (show ax.eval (.tmp 103) = .agg #[.int .u64 ((Rg.nar ⟨Pr.without ⟨a, b⟩ (Rg.oneV ⟨⟨p, q⟩, ⟨r, t⟩⟩), Pr.without ⟨c, d⟩ (sg (Rg.oneV ⟨⟨p, q⟩, ⟨r, t⟩⟩))⟩).u.lo), .int .u64 ((Rg.nar ⟨Pr.without ⟨a, b⟩ (Rg.oneV ⟨⟨p, q⟩, ⟨r, t⟩⟩), Pr.without ⟨c, d⟩ (sg (Rg.oneV ⟨⟨p, q⟩, ⟨r, t⟩⟩))⟩).u.hi), .int .i64 ((Rg.nar ⟨Pr.without ⟨a, b⟩ (Rg.oneV ⟨⟨p, q⟩, ⟨r, t⟩⟩), Pr.without ⟨c, d⟩ (sg (Rg.oneV ⟨⟨p, q⟩, ⟨r, t⟩⟩))⟩).s.lo), .int .i64 ((Rg.nar ⟨Pr.without ⟨a, b⟩ (Rg.oneV ⟨⟨p, q⟩, ⟨r, t⟩⟩), Pr.without ⟨c, d⟩ (sg (Rg.oneV ⟨⟨p, q⟩, ⟨r, t⟩⟩))⟩).s.hi)] from s103) hr (by kernel_rfl) rfl (by simp [Value.oneCell'])) ⟨undef, rfl, trivial, hS.storeBi 6 2 rfl q_g3 rfl ⟨(show g1 ≠ g3 by omega), (show g2 ≠ g3 by omega), (show g4 ≠ g3 by omega), (show g5 ≠ g3 by omega), trivial⟩ (stored_setRow wx g3 _ _ _ hr)⟩
     ·
      have s104 : ax.tmps.getD 104 undef = .bool (Rg.narB ⟨Pr.without ⟨a, b⟩ (Rg.oneV ⟨⟨p, q⟩, ⟨r, t⟩⟩), Pr.without ⟨c, d⟩ (sg (Rg.oneV ⟨⟨p, q⟩, ⟨r, t⟩⟩))⟩) := (hdone 0 _ rfl rfl).2 _ rfl
      exact wpOp_val (v := .bool (Rg.narB ⟨Pr.without ⟨a, b⟩ (Rg.oneV ⟨⟨p, q⟩, ⟨r, t⟩⟩), Pr.without ⟨c, d⟩ (sg (Rg.oneV ⟨⟨p, q⟩, ⟨r, t⟩⟩))⟩)) (w' := wx) rfl rfl (by (revert s104; generalize (.bool (Rg.narB ⟨Pr.without ⟨a, b⟩ (Rg.oneV ⟨⟨p, q⟩, ⟨r, t⟩⟩), Pr.without ⟨c, d⟩ (sg (Rg.oneV ⟨⟨p, q⟩, ⟨r, t⟩⟩))⟩) : Value) = y0; intro s104); simp [execOp, Act.eval, s104]) ⟨_, rfl, tab_put rfl hs rfl rfl, hS.same 7 rfl⟩
   intro a10 w10 fl d10 z10 rest10 R10 hfl hS
   obtain ⟨B10, n10, hBs, hAs, hPs⟩ := hS.finish hfl rfl
   replace d10 := d10.trans d9
   replace z10 := z10.trans z9
   obtain ⟨⟨-, b_g1_10⟩, ⟨-, b_g2_10⟩, ⟨-, b_g3_10⟩, ⟨-, b_g4_10⟩, ⟨-, b_g5_10⟩, -⟩ := hBs
   have s6_10 := (rest10 6 (not_of (by kernel_rfl))).trans s6_9
   have s7_10 : a10.tmps.getD 7 undef = .bool (Rg.narB ⟨Pr.without ⟨a, b⟩ (Rg.oneV ⟨⟨p, q⟩, ⟨r, t⟩⟩), Pr.without ⟨c, d⟩ (sg (Rg.oneV ⟨⟨p, q⟩, ⟨r, t⟩⟩))⟩) := R10 7 _ rfl
   clear R10 rest10 hS hfl hPs hAs
   clear s6_9 s7_9 s8_9 s9_9 b_g1_9 b_g2_9 b_g3_9 b_g4_9 b_g5_9 d9 z9
   refine wp_ret ?_
   try simp only [Exit.inBlock, Exit.then]
   refine bodyPost_ret (res_ct (fn := Try.f24) rfl s6_10 (load_row 60 b_g3_10 Try.underlying60 rfl (by kernel_rfl)) s7_10) d10 ?_
   have no0 := nb Ffk3.out
   have ho : cc = 1 := yb Ffk4.out
   have hk : ccOk cc = true := by rw [ho]; rfl
   have HD : givC cc ⟨⟨a, b⟩, ⟨c, d⟩⟩ ⟨⟨p, q⟩, ⟨r, t⟩⟩ = ⟨Pr.without ⟨a, b⟩ (Rg.oneV ⟨⟨p, q⟩, ⟨r, t⟩⟩), Pr.without ⟨c, d⟩ (sg (Rg.oneV ⟨⟨p, q⟩, ⟨r, t⟩⟩))⟩ := by
     unfold givC
     simp only [if_neg no0, if_pos ho, if_pos (show Rg.oneB ⟨⟨p, q⟩, ⟨r, t⟩⟩ = true from Ffk5.out)]
     try rfl
   have HE : Value.tuple #[.agg #[.int .u64 ((Rg.nar ⟨Pr.without ⟨a, b⟩ (Rg.oneV ⟨⟨p, q⟩, ⟨r, t⟩⟩), Pr.without ⟨c, d⟩ (sg (Rg.oneV ⟨⟨p, q⟩, ⟨r, t⟩⟩))⟩).u.lo), .int .u64 ((Rg.nar ⟨Pr.without ⟨a, b⟩ (Rg.oneV ⟨⟨p, q⟩, ⟨r, t⟩⟩), Pr.without ⟨c, d⟩ (sg (Rg.oneV ⟨⟨p, q⟩, ⟨r, t⟩⟩))⟩).u.hi), .int .i64 ((Rg.nar ⟨Pr.without ⟨a, b⟩ (Rg.oneV ⟨⟨p, q⟩, ⟨r, t⟩⟩), Pr.without ⟨c, d⟩ (sg (Rg.oneV ⟨⟨p, q⟩, ⟨r, t⟩⟩))⟩).s.lo), .int .i64 ((Rg.nar ⟨Pr.without ⟨a, b⟩ (Rg.oneV ⟨⟨p, q⟩, ⟨r, t⟩⟩), Pr.without ⟨c, d⟩ (sg (Rg.oneV ⟨⟨p, q⟩, ⟨r, t⟩⟩))⟩).s.hi)], .bool (Rg.narB ⟨Pr.without ⟨a, b⟩ (Rg.oneV ⟨⟨p, q⟩, ⟨r, t⟩⟩), Pr.without ⟨c, d⟩ (sg (Rg.oneV ⟨⟨p, q⟩, ⟨r, t⟩⟩))⟩)] = .tuple #[Rg.val (Rg.giv cc ⟨⟨a, b⟩, ⟨c, d⟩⟩ ⟨⟨p, q⟩, ⟨r, t⟩⟩), .bool (Rg.givB cc ⟨⟨a, b⟩, ⟨c, d⟩⟩ ⟨⟨p, q⟩, ⟨r, t⟩⟩)] := by unfold Rg.giv Rg.givB; rw [Ffk1.out, Ffk2.out, hk, if_pos (by rfl), HD]; rfl
   exact ⟨retV HE, B10⟩
  have Ffk4 := Lib.hid fk4; clear fk4
  refine wp_regx (SX W w5.heap.size [⟨g1, 60, (cR a b c d), none, #[]⟩, ⟨g2, 60, (cR p q r t), none, #[]⟩, ⟨g3, 60, (cR 0 0 0 0), none, #[]⟩, ⟨g4, 95, (cU a b), none, #[]⟩, ⟨g5, 99, (cS c d), none, #[]⟩] []) (TabX [fun vx => vx = .bool false, fun vx => vx = .bool false]) (by kernel_rfl) (back_of (by kernel_rfl)) (dst_of (by kernel_rfl)) (in_ofz (by kernel_rfl) z5) (fun fl w1 hfl hw => SX.start' hw B5 hfl rfl ⟨b_g1_5, b_g2_5, b_g3_5, b_g4_5, b_g5_5, trivial⟩) ?h20 ?_
  case h20 =>
    intro ix ox ax wx fl ho hS hfi clo hsz hrest hdone hund
    have t25 := (hrest 25 (not_of (by kernel_rfl))).trans s25_5
    have hs : ax.tmps.size = 105 := hsz.trans z5
    have hi : ix < 2 := (Array.getElem?_eq_some_iff.1 ho).1
    clear hrest hsz hund
    obtain rfl | rfl : ix = 0 ∨ ix = 1 := by omega
    all_goals obtain rfl := Option.some.inj (show some _ = some ox from ho)
    ·
     exact wpOp_val (v := .bool (cc == 1)) (w' := wx) rfl rfl (by (simp [execOp, Act.eval, t25, go_sem]; try (simp only [IntKind.wrap_i64, wrap64]))) ⟨_, rfl, tab_put rfl hs rfl (congrArg Value.bool Ffk4.out), hS.same 0 rfl⟩
    ·
     have s35 : ax.tmps.getD 35 undef = .bool false := (hdone 0 _ rfl rfl).2 _ rfl
     exact wpOp_val (v := .bool false) (w' := wx) rfl rfl (by simp [execOp, Act.eval, s35]) ⟨_, rfl, tab_put rfl hs rfl rfl, hS.same 1 rfl⟩
  intro a6 w6 fl d6 z6 rest6 R6 hfl hS
  obtain ⟨B6, n6, hBs, hAs, hPs⟩ := hS.finish hfl rfl
  replace d6 := d6.trans d5
  replace z6 := z6.trans z5
  obtain ⟨⟨-, b_g1_6⟩, ⟨-, b_g2_6⟩, ⟨-, b_g3_6⟩, ⟨-, b_g4_6⟩, ⟨-, b_g5_6⟩, -⟩ := hBs
  have s5_6 := (rest6 5 (not_of (by kernel_rfl))).trans s5_5
  have s6_6 := (rest6 6 (not_of (by kernel_rfl))).trans s6_5
  have s7_6 := (rest6 7 (not_of (by kernel_rfl))).trans s7_5
  have s8_6 := (rest6 8 (not_of (by kernel_rfl))).trans s8_5
  have s9_6 := (rest6 9 (not_of (by kernel_rfl))).trans s9_5
  have s25_6 := (rest6 25 (not_of (by kernel_rfl))).trans s25_5
  have s34_6 : a6.tmps.getD 34 undef = .bool false := R6 1 _ rfl
  clear R6 rest6 hS hfl hPs hAs
  clear s4_5 s5_5 s6_5 s7_5 s8_5 s9_5 s25_5 s27_5 b_g1_5 b_g2_5 b_g3_5 b_g4_5 b_g5_5 d5 z5
  refine wp_cond_false (show a6.tmps.getD 34 undef = .bool false from s34_6) ?_
  refine wp_seq ?_
  cases fk6 : cc == 2
  case true =>
   have Ffk6 := Lib.hid fk6; clear fk6
   refine wp_regx (SX W w6.heap.size [⟨g1, 60, (cR a b c d), none, #[]⟩, ⟨g2, 60, (cR p q r t), none, #[]⟩, ⟨g3, 60, (cR 0 0 0 0), none, #[]⟩, ⟨g4, 95, (cU a b), none, #[]⟩, ⟨g5, 99, (cS c d), none, #[]⟩] []) (TabX [fun vx => vx = .bool true, fun vx => vx = .bool true]) (by kernel_rfl) (back_of (by kernel_rfl)) (dst_of (by kernel_rfl)) (in_ofz (by kernel_rfl) z6) (fun fl w1 hfl hw => SX.start' hw B6 hfl rfl ⟨b_g1_6, b_g2_6, b_g3_6, b_g4_6, b_g5_6, trivial⟩) ?h21 ?_
   case h21 =>
     intro ix ox ax wx fl ho hS hfi clo hsz hrest hdone hund
     have t25 := (hrest 25 (not_of (by kernel_rfl))).trans s25_6
     have hs : ax.tmps.size = 105 := hsz.trans z6
     have hi : ix < 2 := (Array.getElem?_eq_some_iff.1 ho).1
     clear hrest hsz hund
     obtain rfl | rfl : ix = 0 ∨ ix = 1 := by omega
     all_goals obtain rfl := Option.some.inj (show some _ = some ox from ho)
     ·
      exact wpOp_val (v := .bool (cc == 2)) (w' := wx) rfl rfl (by (simp [execOp, Act.eval, t25, go_sem]; try (simp only [IntKind.wrap_i64, wrap64]))) ⟨_, rfl, tab_put rfl hs rfl (congrArg Value.bool Ffk6.out), hS.same 0 rfl⟩
     ·
      have s50 : ax.tmps.getD 50 undef = .bool true := (hdone 0 _ rfl rfl).2 _ rfl
      exact wpOp_val (v := .bool true) (w' := wx) rfl rfl (by simp [execOp, Act.eval, s50]) ⟨_, rfl, tab_put rfl hs rfl rfl, hS.same 1 rfl⟩
   intro a7 w7 fl d7 z7 rest7 R7 hfl hS
   obtain ⟨B7, n7, hBs, hAs, hPs⟩ := hS.finish hfl rfl
   replace d7 := d7.trans d6
   replace z7 := z7.trans z6
   obtain ⟨⟨-, b_g1_7⟩, ⟨-, b_g2_7⟩, ⟨-, b_g3_7⟩, ⟨-, b_g4_7⟩, ⟨-, b_g5_7⟩, -⟩ := hBs
   have s5_7 := (rest7 5 (not_of (by kernel_rfl))).trans s5_6
   have s6_7 := (rest7 6 (not_of (by kernel_rfl))).trans s6_6
   have s7_7 := (rest7 7 (not_of (by kernel_rfl))).trans s7_6
   have s8_7 := (rest7 8 (not_of (by kernel_rfl))).trans s8_6
   have s9_7 := (rest7 9 (not_of (by kernel_rfl))).trans s9_6
   have s25_7 := (rest7 25 (not_of (by kernel_rfl))).trans s25_6
   have s49_7 : a7.tmps.getD 49 undef = .bool true := R7 1 _ rfl
   clear R7 rest7 hS hfl hPs hAs
   clear s5_6 s6_6 s7_6 s8_6 s9_6 s25_6 s34_6 b_g1_6 b_g2_6 b_g3_6 b_g4_6 b_g5_6 d6 z6
   refine wp_cond_true (show a7.tmps.getD 49 undef = .bool true from s49_7) ?_
   refine wp_regx (SX W w7.heap.size [⟨g1, 60, (cR a b c d), none, #[]⟩, ⟨g2, 60, (cR p q r t), none, #[]⟩, ⟨g3, 60, (cR 0 0 0 0), none, #[]⟩, ⟨g4, 95, (cU a b), some 4, (cU ((Pr.above ⟨a, b⟩ ⟨p, q⟩).lo) ((Pr.above ⟨a, b⟩ ⟨p, q⟩).hi))⟩, ⟨g5, 99, (cS c d), none, #[]⟩] []) (TabX [fun vx => vx = .agg #[.int .u64 a, .int .u64 b], fun vx => vx = .agg #[.int .u64 p, .int .u64 q, .int .i64 r, .int .i64 t], fun vx => vx = .agg #[.int .u64 p, .int .u64 q], fun vx => vx = .agg #[.int .u64 ((Pr.above ⟨a, b⟩ ⟨p, q⟩).lo), .int .u64 ((Pr.above ⟨a, b⟩ ⟨p, q⟩).hi)], fun _ => True]) (by kernel_rfl) (back_of (by kernel_rfl)) (dst_of (by kernel_rfl)) (in_ofz (by kernel_rfl) z7) (fun fl w1 hfl hw => SX.start' hw B7 hfl rfl ⟨b_g1_7, b_g2_7, b_g3_7, b_g4_7, b_g5_7, trivial⟩) ?h22 ?_
   case h22 =>
     intro ix ox ax wx fl ho hS hfi clo hsz hrest hdone hund
     have t5 := (hrest 5 (not_of (by kernel_rfl))).trans s5_7
     have t8 := (hrest 8 (not_of (by kernel_rfl))).trans s8_7
     have hs : ax.tmps.size = 105 := hsz.trans z7
     have hi : ix < 5 := (Array.getElem?_eq_some_iff.1 ho).1
     clear hrest hsz hund
     obtain rfl | rfl | rfl | rfl | rfl : ix = 0 ∨ ix = 1 ∨ ix = 2 ∨ ix = 3 ∨ ix = 4 := by omega
     all_goals obtain rfl := Option.some.inj (show some _ = some ox from ho)
     ·
      have hr := hS.rowFi 3 rfl (not_yet clo hfi (by kernel_rfl))
      exact wpOp_val (v := .agg #[.int .u64 a, .int .u64 b]) (w' := wx) rfl rfl (exec_loadR 95 _ rfl g4 0 (show ax.eval (.tmp 8) = .pointer (some ⟨g4, 0, none⟩) from t8) hr [.int .u64 a, .int .u64 b] rfl _ Try.underlying95 rfl (by kernel_rfl)) ⟨_, rfl, tab_put rfl hs rfl rfl, hS.same 0 rfl⟩
     ·
      have hr := hS.rowNi 1 rfl
      exact wpOp_val (v := .agg #[.int .u64 p, .int .u64 q, .int .i64 r, .int .i64 t]) (w' := wx) rfl rfl (exec_loadR 60 _ rfl g2 0 (show ax.eval (.tmp 5) = .pointer (some ⟨g2, 0, none⟩) from t5) hr [.int .u64 p, .int .u64 q, .int .i64 r, .int .i64 t] rfl _ Try.underlying60 rfl (by kernel_rfl)) ⟨_, rfl, tab_put rfl hs rfl rfl, hS.same 1 rfl⟩
     ·
      have s52 : ax.tmps.getD 52 undef = .agg #[.int .u64 p, .int .u64 q, .int .i64 r, .int .i64 t] := (hdone 0 _ rfl rfl).2 _ rfl
      refine wpOp_call (args := #[.agg #[.int .u64 p, .int .u64 q, .int .i64 r, .int .i64 t]]) rfl rfl (exec_call rfl rfl rfl (args1 (show ax.eval (.tmp 52) = .agg #[.int .u64 p, .int .u64 q, .int .i64 r, .int .i64 t] from s52)) Try.func61 (by decide +kernel) rfl) ?_
      · refine (unsigned_n p q r t wx).mono ?_
        rintro e w' ⟨rfl, b9⟩
        exact ⟨_, rfl, _, rfl, tab_put rfl hs rfl rfl, hS.quiet 2 rfl b9⟩
     ·
      have s51 : ax.tmps.getD 51 undef = .agg #[.int .u64 a, .int .u64 b] := (hdone 0 _ rfl rfl).2 _ rfl
      have s53 : ax.tmps.getD 53 undef = .agg #[.int .u64 p, .int .u64 q] := (hdone 1 _ rfl rfl).2 _ rfl
      refine wpOp_call (args := #[.agg #[.int .u64 a, .int .u64 b], .agg #[.int .u64 p, .int .u64 q]]) rfl rfl (exec_call rfl rfl rfl (args2 (show ax.eval (.tmp 51) = .agg #[.int .u64 a, .int .u64 b] from s51) (show ax.eval (.tmp 53) = .agg #[.int .u64 p, .int .u64 q] from s53)) Try.func67 (by decide +kernel) rfl) ?_
      · refine (aboveU_n a b p q wx HA.out.1 HB.out.1).mono ?_
        rintro e w' ⟨rfl, b9⟩
        exact ⟨_, rfl, _, rfl, tab_put rfl hs rfl rfl, hS.quiet 3 rfl b9⟩
     ·
      have s54 : ax.tmps.getD 54 undef = .agg #[.int .u64 ((Pr.above ⟨a, b⟩ ⟨p, q⟩).lo), .int .u64 ((Pr.above ⟨a, b⟩ ⟨p, q⟩).hi)] := (hdone 0 _ rfl rfl).2 _ rfl
      have hr := hS.rowFi 3 rfl hfi
      exact wpOp_skp (w' := wx.setRow g4 #[.int .u64 ((Pr.above ⟨a, b⟩ ⟨p, q⟩).lo), .int .u64 ((Pr.above ⟨a, b⟩ ⟨p, q⟩).hi)]) rfl rfl (exec_storeR 95 _ _ rfl g4 #[.int .u64 ((Pr.above ⟨a, b⟩ ⟨p, q⟩).lo), .int .u64 ((Pr.above ⟨a, b⟩ ⟨p, q⟩).hi)] (show ax.eval (.tmp 8) = .pointer (some ⟨g4, 0, none⟩) from t8) (show ax.eval (.tmp 54) = .agg #[.int .u64 ((Pr.above ⟨a, b⟩ ⟨p, q⟩).lo), .int .u64 ((Pr.above ⟨a, b⟩ ⟨p, q⟩).hi)] from s54) hr (by kernel_rfl) rfl (by simp [Value.oneCell'])) ⟨undef, rfl, trivial, hS.storeBi 4 3 rfl q_g4 rfl ⟨(show g1 ≠ g4 by omega), (show g2 ≠ g4 by omega), (show g3 ≠ g4 by omega), (show g5 ≠ g4 by omega), trivial⟩ (stored_setRow wx g4 _ _ _ hr)⟩
   intro a8 w8 fl d8 z8 rest8 R8 hfl hS
   obtain ⟨B8, n8, hBs, hAs, hPs⟩ := hS.finish hfl rfl
   replace d8 := d8.trans d7
   replace z8 := z8.trans z7
   obtain ⟨⟨-, b_g1_8⟩, ⟨-, b_g2_8⟩, ⟨-, b_g3_8⟩, ⟨-, b_g4_8⟩, ⟨-, b_g5_8⟩, -⟩ := hBs
   have s6_8 := (rest8 6 (not_of (by kernel_rfl))).trans s6_7
   have s7_8 := (rest8 7 (not_of (by kernel_rfl))).trans s7_7
   have s8_8 := (rest8 8 (not_of (by kernel_rfl))).trans s8_7
   have s9_8 := (rest8 9 (not_of (by kernel_rfl))).trans s9_7
   clear R8 rest8 hS hfl hPs hAs
   clear s5_7 s6_7 s7_7 s8_7 s9_7 s25_7 s49_7 b_g1_7 b_g2_7 b_g3_7 b_g4_7 b_g5_7 d7 z7
   refine wp_seq ?_
   refine wp_regx (SX W w8.heap.size [⟨g1, 60, (cR a b c d), none, #[]⟩, ⟨g2, 60, (cR p q r t), none, #[]⟩, ⟨g3, 60, (cR 0 0 0 0), some 6, (cR ((Rg.nar ⟨Pr.above ⟨a, b⟩ ⟨p, q⟩, ⟨c, d⟩⟩).u.lo) ((Rg.nar ⟨Pr.above ⟨a, b⟩ ⟨p, q⟩, ⟨c, d⟩⟩).u.hi) ((Rg.nar ⟨Pr.above ⟨a, b⟩ ⟨p, q⟩, ⟨c, d⟩⟩).s.lo) ((Rg.nar ⟨Pr.above ⟨a, b⟩ ⟨p, q⟩, ⟨c, d⟩⟩).s.hi))⟩, ⟨g4, 95, (cU ((Pr.above ⟨a, b⟩ ⟨p, q⟩).lo) ((Pr.above ⟨a, b⟩ ⟨p, q⟩).hi)), none, #[]⟩, ⟨g5, 99, (cS c d), none, #[]⟩] []) (TabX [fun vx => vx = .agg #[.int .u64 ((Pr.above ⟨a, b⟩ ⟨p, q⟩).lo), .int .u64 ((Pr.above ⟨a, b⟩ ⟨p, q⟩).hi)], fun vx => vx = .agg #[.int .i64 c, .int .i64 d], fun vx => vx = .agg #[.int .u64 ((Pr.above ⟨a, b⟩ ⟨p, q⟩).lo), .int .u64 ((Pr.above ⟨a, b⟩ ⟨p, q⟩).hi), .int .i64 c, .int .i64 d], fun vx => vx = .tuple #[.agg #[.int .u64 ((Rg.nar ⟨Pr.above ⟨a, b⟩ ⟨p, q⟩, ⟨c, d⟩⟩).u.lo), .int .u64 ((Rg.nar ⟨Pr.above ⟨a, b⟩ ⟨p, q⟩, ⟨c, d⟩⟩).u.hi), .int .i64 ((Rg.nar ⟨Pr.above ⟨a, b⟩ ⟨p, q⟩, ⟨c, d⟩⟩).s.lo), .int .i64 ((Rg.nar ⟨Pr.above ⟨a, b⟩ ⟨p, q⟩, ⟨c, d⟩⟩).s.hi)], .bool (Rg.narB ⟨Pr.above ⟨a, b⟩ ⟨p, q⟩, ⟨c, d⟩⟩)], fun vx => vx = .agg #[.int .u64 ((Rg.nar ⟨Pr.above ⟨a, b⟩ ⟨p, q⟩, ⟨c, d⟩⟩).u.lo), .int .u64 ((Rg.nar ⟨Pr.above ⟨a, b⟩ ⟨p, q⟩, ⟨c, d⟩⟩).u.hi), .int .i64 ((Rg.nar ⟨Pr.above ⟨a, b⟩ ⟨p, q⟩, ⟨c, d⟩⟩).s.lo), .int .i64 ((Rg.nar ⟨Pr.above ⟨a, b⟩ ⟨p, q⟩, ⟨c, d⟩⟩).s.hi)], fun vx => vx = .bool (Rg.narB ⟨Pr.above ⟨a, b⟩ ⟨p, q⟩, ⟨c, d⟩⟩), fun _ => True, fun vx => vx = .bool (Rg.narB ⟨Pr.above ⟨a, b⟩ ⟨p, q⟩, ⟨c, d⟩⟩)]) (by kernel_rfl) (back_of (by kernel_rfl)) (dst_of (by kernel_rfl)) (in_ofz (by kernel_rfl) z8) (fun fl w1 hfl hw => SX.start' hw B8 hfl rfl ⟨b_g1_8, b_g2_8, b_g3_8, b_g4_8, b_g5_8, trivial⟩) ?h23 ?_
   case h23 =>
     intro ix ox ax wx fl ho hS hfi clo hsz hrest hdone hund
     have t6 := (hrest 6 (not_of (by kernel_rfl))).trans s6_8
     have t8 := (hrest 8 (not_of (by kernel_rfl))).trans s8_8
     have t9 := (hrest 9 (not_of (by kernel_rfl))).trans s9_8
     have hs : ax.tmps.size = 105 := hsz.trans z8
     have hi : ix < 8 := (Array.getElem?_eq_some_iff.1 ho).1
     clear hrest hsz hund
     obtain rfl | rfl | rfl | rfl | rfl | rfl | rfl | rfl : ix = 0 ∨ ix = 1 ∨ ix = 2 ∨ ix = 3 ∨ ix = 4 ∨ ix = 5 ∨ ix = 6 ∨ ix = 7 := by omega
     all_goals obtain rfl := Option.some.inj (show some _ = some ox from ho)
     ·
      have hr := hS.rowNi 3 rfl
      exact wpOp_val (v := .agg #[.int .u64 ((Pr.above ⟨a, b⟩ ⟨p, q⟩).lo), .int .u64 ((Pr.above ⟨a, b⟩ ⟨p, q⟩).hi)]) (w' := wx) rfl rfl (exec_loadR 95 _ rfl g4 0 (show ax.eval (.tmp 8) = .pointer (some ⟨g4, 0, none⟩) from t8) hr [.int .u64 ((Pr.above ⟨a, b⟩ ⟨p, q⟩).lo), .int .u64 ((Pr.above ⟨a, b⟩ ⟨p, q⟩).hi)] rfl _ Try.underlying95 rfl (by kernel_rfl)) ⟨_, rfl, tab_put rfl hs rfl rfl, hS.same 0 rfl⟩
     ·
      have hr := hS.rowNi 4 rfl
      exact wpOp_val (v := .agg #[.int .i64 c, .int .i64 d]) (w' := wx) rfl rfl (exec_loadR 99 _ rfl g5 0 (show ax.eval (.tmp 9) = .pointer (some ⟨g5, 0, none⟩) from t9) hr [.int .i64 c, .int .i64 d] rfl _ Try.underlying99 rfl (by kernel_rfl)) ⟨_, rfl, tab_put rfl hs rfl rfl, hS.same 1 rfl⟩
     ·
      have s99 : ax.tmps.getD 99 undef = .agg #[.int .u64 ((Pr.above ⟨a, b⟩ ⟨p, q⟩).lo), .int .u64 ((Pr.above ⟨a, b⟩ ⟨p, q⟩).hi)] := (hdone 0 _ rfl rfl).2 _ rfl
      have s100 : ax.tmps.getD 100 undef = .agg #[.int .i64 c, .int .i64 d] := (hdone 1 _ rfl rfl).2 _ rfl
      refine wpOp_call (args := #[.agg #[.int .u64 ((Pr.above ⟨a, b⟩ ⟨p, q⟩).lo), .int .u64 ((Pr.above ⟨a, b⟩ ⟨p, q⟩).hi)], .agg #[.int .i64 c, .int .i64 d]]) rfl rfl (exec_call rfl rfl rfl (args2 (show ax.eval (.tmp 99) = .agg #[.int .u64 ((Pr.above ⟨a, b⟩ ⟨p, q⟩).lo), .int .u64 ((Pr.above ⟨a, b⟩ ⟨p, q⟩).hi)] from s99) (show ax.eval (.tmp 100) = .agg #[.int .i64 c, .int .i64 d] from s100)) Try.func60 (by decide +kernel) rfl) ?_
      · refine (both_n ((Pr.above ⟨a, b⟩ ⟨p, q⟩).lo) ((Pr.above ⟨a, b⟩ ⟨p, q⟩).hi) c d wx).mono ?_
        rintro e w' ⟨rfl, b9⟩
        exact ⟨_, rfl, _, rfl, tab_put rfl hs rfl rfl, hS.quiet 2 rfl b9⟩
     ·
      have s101 : ax.tmps.getD 101 undef = .agg #[.int .u64 ((Pr.above ⟨a, b⟩ ⟨p, q⟩).lo), .int .u64 ((Pr.above ⟨a, b⟩ ⟨p, q⟩).hi), .int .i64 c, .int .i64 d] := (hdone 0 _ rfl rfl).2 _ rfl
      refine wpOp_call (args := #[.agg #[.int .u64 ((Pr.above ⟨a, b⟩ ⟨p, q⟩).lo), .int .u64 ((Pr.above ⟨a, b⟩ ⟨p, q⟩).hi), .int .i64 c, .int .i64 d]]) rfl rfl (exec_call rfl rfl rfl (args1 (show ax.eval (.tmp 101) = .agg #[.int .u64 ((Pr.above ⟨a, b⟩ ⟨p, q⟩).lo), .int .u64 ((Pr.above ⟨a, b⟩ ⟨p, q⟩).hi), .int .i64 c, .int .i64 d] from s101)) Try.func28 (by decide +kernel) rfl) ?_
      · refine (narrow_n ((Pr.above ⟨a, b⟩ ⟨p, q⟩).lo) ((Pr.above ⟨a, b⟩ ⟨p, q⟩).hi) c d wx (by have hh := (giv_ok cc (a := ⟨⟨a, b⟩, ⟨c, d⟩⟩) (b := ⟨⟨p, q⟩, ⟨r, t⟩⟩) HA.out HB.out Ffk1.out); unfold givC at hh; simp only [if_neg (nb Ffk3.out), if_neg (nb Ffk4.out), if_pos (yb Ffk6.out)] at hh; exact hh)).mono ?_
        rintro e w' ⟨rfl, b9⟩
        exact ⟨_, rfl, _, rfl, tab_put rfl hs rfl rfl, hS.quiet 3 rfl b9⟩
     ·
      have s102 : ax.tmps.getD 102 undef = .tuple #[.agg #[.int .u64 ((Rg.nar ⟨Pr.above ⟨a, b⟩ ⟨p, q⟩, ⟨c, d⟩⟩).u.lo), .int .u64 ((Rg.nar ⟨Pr.above ⟨a, b⟩ ⟨p, q⟩, ⟨c, d⟩⟩).u.hi), .int .i64 ((Rg.nar ⟨Pr.above ⟨a, b⟩ ⟨p, q⟩, ⟨c, d⟩⟩).s.lo), .int .i64 ((Rg.nar ⟨Pr.above ⟨a, b⟩ ⟨p, q⟩, ⟨c, d⟩⟩).s.hi)], .bool (Rg.narB ⟨Pr.above ⟨a, b⟩ ⟨p, q⟩, ⟨c, d⟩⟩)] := (hdone 0 _ rfl rfl).2 _ rfl
      exact wpOp_val (v := .agg #[.int .u64 ((Rg.nar ⟨Pr.above ⟨a, b⟩ ⟨p, q⟩, ⟨c, d⟩⟩).u.lo), .int .u64 ((Rg.nar ⟨Pr.above ⟨a, b⟩ ⟨p, q⟩, ⟨c, d⟩⟩).u.hi), .int .i64 ((Rg.nar ⟨Pr.above ⟨a, b⟩ ⟨p, q⟩, ⟨c, d⟩⟩).s.lo), .int .i64 ((Rg.nar ⟨Pr.above ⟨a, b⟩ ⟨p, q⟩, ⟨c, d⟩⟩).s.hi)]) (w' := wx) rfl rfl (by simp [execOp, Act.eval, s102, go_sem]) ⟨_, rfl, tab_put rfl hs rfl rfl, hS.same 4 rfl⟩
     ·
      have s102 : ax.tmps.getD 102 undef = .tuple #[.agg #[.int .u64 ((Rg.nar ⟨Pr.above ⟨a, b⟩ ⟨p, q⟩, ⟨c, d⟩⟩).u.lo), .int .u64 ((Rg.nar ⟨Pr.above ⟨a, b⟩ ⟨p, q⟩, ⟨c, d⟩⟩).u.hi), .int .i64 ((Rg.nar ⟨Pr.above ⟨a, b⟩ ⟨p, q⟩, ⟨c, d⟩⟩).s.lo), .int .i64 ((Rg.nar ⟨Pr.above ⟨a, b⟩ ⟨p, q⟩, ⟨c, d⟩⟩).s.hi)], .bool (Rg.narB ⟨Pr.above ⟨a, b⟩ ⟨p, q⟩, ⟨c, d⟩⟩)] := (hdone 0 _ rfl rfl).2 _ rfl
      exact wpOp_val (v := .bool (Rg.narB ⟨Pr.above ⟨a, b⟩ ⟨p, q⟩, ⟨c, d⟩⟩)) (w' := wx) rfl rfl (by simp [execOp, Act.eval, s102, go_sem]) ⟨_, rfl, tab_put rfl hs rfl rfl, hS.same 5 rfl⟩
     ·
      have s103 : ax.tmps.getD 103 undef = .agg #[.int .u64 ((Rg.nar ⟨Pr.above ⟨a, b⟩ ⟨p, q⟩, ⟨c, d⟩⟩).u.lo), .int .u64 ((Rg.nar ⟨Pr.above ⟨a, b⟩ ⟨p, q⟩, ⟨c, d⟩⟩).u.hi), .int .i64 ((Rg.nar ⟨Pr.above ⟨a, b⟩ ⟨p, q⟩, ⟨c, d⟩⟩).s.lo), .int .i64 ((Rg.nar ⟨Pr.above ⟨a, b⟩ ⟨p, q⟩, ⟨c, d⟩⟩).s.hi)] := (hdone 0 _ rfl rfl).2 _ rfl
      have hr := hS.rowFi 2 rfl hfi
      exact wpOp_skp (w' := wx.setRow g3 #[.int .u64 ((Rg.nar ⟨Pr.above ⟨a, b⟩ ⟨p, q⟩, ⟨c, d⟩⟩).u.lo), .int .u64 ((Rg.nar ⟨Pr.above ⟨a, b⟩ ⟨p, q⟩, ⟨c, d⟩⟩).u.hi), .int .i64 ((Rg.nar ⟨Pr.above ⟨a, b⟩ ⟨p, q⟩, ⟨c, d⟩⟩).s.lo), .int .i64 ((Rg.nar ⟨Pr.above ⟨a, b⟩ ⟨p, q⟩, ⟨c, d⟩⟩).s.hi)]) rfl rfl (exec_storeR 60 _ _ rfl g3 #[.int .u64 ((Rg.nar ⟨Pr.above ⟨a, b⟩ ⟨p, q⟩, ⟨c, d⟩⟩).u.lo), .int .u64 ((Rg.nar ⟨Pr.above ⟨a, b⟩ ⟨p, q⟩, ⟨c, d⟩⟩).u.hi), .int .i64 ((Rg.nar ⟨Pr.above ⟨a, b⟩ ⟨p, q⟩, ⟨c, d⟩⟩).s.lo), .int .i64 ((Rg.nar ⟨Pr.above ⟨a, b⟩ ⟨p, q⟩, ⟨c, d⟩⟩).s.hi)] (show ax.eval (.tmp 6) = .pointer (some ⟨g3, 0, none⟩) from t6) (show ax.eval (.tmp 103) = .agg #[.int .u64 ((Rg.nar ⟨Pr.above ⟨a, b⟩ ⟨p, q⟩, ⟨c, d⟩⟩).u.lo), .int .u64 ((Rg.nar ⟨Pr.above ⟨a, b⟩ ⟨p, q⟩, ⟨c, d⟩⟩).u.hi), .int .i64 ((Rg.nar ⟨Pr.above ⟨a, b⟩ ⟨p, q⟩, ⟨c, d⟩⟩).s.lo), .int .i64 ((Rg.nar ⟨Pr.above ⟨a, b⟩ ⟨p, q⟩, ⟨c, d⟩⟩).s.hi)] from s103) hr (by kernel_rfl) rfl (by simp [Value.oneCell'])) ⟨undef, rfl, trivial, hS.storeBi 6 2 rfl q_g3 rfl ⟨(show g1 ≠ g3 by omega), (show g2 ≠ g3 by omega), (show g4 ≠ g3 by omega), (show g5 ≠ g3 by omega), trivial⟩ (stored_setRow wx g3 _ _ _ hr)⟩
     ·
      have s104 : ax.tmps.getD 104 undef = .bool (Rg.narB ⟨Pr.above ⟨a, b⟩ ⟨p, q⟩, ⟨c, d⟩⟩) := (hdone 0 _ rfl rfl).2 _ rfl
      exact wpOp_val (v := .bool (Rg.narB ⟨Pr.above ⟨a, b⟩ ⟨p, q⟩, ⟨c, d⟩⟩)) (w' := wx) rfl rfl (by simp [execOp, Act.eval, s104]) ⟨_, rfl, tab_put rfl hs rfl rfl, hS.same 7 rfl⟩
   intro a9 w9 fl d9 z9 rest9 R9 hfl hS
   obtain ⟨B9, n9, hBs, hAs, hPs⟩ := hS.finish hfl rfl
   replace d9 := d9.trans d8
   replace z9 := z9.trans z8
   obtain ⟨⟨-, b_g1_9⟩, ⟨-, b_g2_9⟩, ⟨-, b_g3_9⟩, ⟨-, b_g4_9⟩, ⟨-, b_g5_9⟩, -⟩ := hBs
   have s6_9 := (rest9 6 (not_of (by kernel_rfl))).trans s6_8
   have s7_9 : a9.tmps.getD 7 undef = .bool (Rg.narB ⟨Pr.above ⟨a, b⟩ ⟨p, q⟩, ⟨c, d⟩⟩) := R9 7 _ rfl
   clear R9 rest9 hS hfl hPs hAs
   clear s6_8 s7_8 s8_8 s9_8 b_g1_8 b_g2_8 b_g3_8 b_g4_8 b_g5_8 d8 z8
   refine wp_ret ?_
   try simp only [Exit.inBlock, Exit.then]
   refine bodyPost_ret (res_ct (fn := Try.f24) rfl s6_9 (load_row 60 b_g3_9 Try.underlying60 rfl (by kernel_rfl)) s7_9) d9 ?_
   have no0 := nb Ffk3.out
   have no1 := nb Ffk4.out
   have ho : cc = 2 := yb Ffk6.out
   have hk : ccOk cc = true := by rw [ho]; rfl
   have HD : givC cc ⟨⟨a, b⟩, ⟨c, d⟩⟩ ⟨⟨p, q⟩, ⟨r, t⟩⟩ = ⟨Pr.above ⟨a, b⟩ ⟨p, q⟩, ⟨c, d⟩⟩ := by
     unfold givC
     simp only [if_neg no0, if_neg no1, if_pos ho]
     try rfl
   have HE : Value.tuple #[.agg #[.int .u64 ((Rg.nar ⟨Pr.above ⟨a, b⟩ ⟨p, q⟩, ⟨c, d⟩⟩).u.lo), .int .u64 ((Rg.nar ⟨Pr.above ⟨a, b⟩ ⟨p, q⟩, ⟨c, d⟩⟩).u.hi), .int .i64 ((Rg.nar ⟨Pr.above ⟨a, b⟩ ⟨p, q⟩, ⟨c, d⟩⟩).s.lo), .int .i64 ((Rg.nar ⟨Pr.above ⟨a, b⟩ ⟨p, q⟩, ⟨c, d⟩⟩).s.hi)], .bool (Rg.narB ⟨Pr.above ⟨a, b⟩ ⟨p, q⟩, ⟨c, d⟩⟩)] = .tuple #[Rg.val (Rg.giv cc ⟨⟨a, b⟩, ⟨c, d⟩⟩ ⟨⟨p, q⟩, ⟨r, t⟩⟩), .bool (Rg.givB cc ⟨⟨a, b⟩, ⟨c, d⟩⟩ ⟨⟨p, q⟩, ⟨r, t⟩⟩)] := by unfold Rg.giv Rg.givB; rw [Ffk1.out, Ffk2.out, hk, if_pos (by rfl), HD]; rfl
   exact ⟨retV HE, B9⟩
  have Ffk6 := Lib.hid fk6; clear fk6
  refine wp_regx (SX W w6.heap.size [⟨g1, 60, (cR a b c d), none, #[]⟩, ⟨g2, 60, (cR p q r t), none, #[]⟩, ⟨g3, 60, (cR 0 0 0 0), none, #[]⟩, ⟨g4, 95, (cU a b), none, #[]⟩, ⟨g5, 99, (cS c d), none, #[]⟩] []) (TabX [fun vx => vx = .bool false, fun vx => vx = .bool false]) (by kernel_rfl) (back_of (by kernel_rfl)) (dst_of (by kernel_rfl)) (in_ofz (by kernel_rfl) z6) (fun fl w1 hfl hw => SX.start' hw B6 hfl rfl ⟨b_g1_6, b_g2_6, b_g3_6, b_g4_6, b_g5_6, trivial⟩) ?h24 ?_
  case h24 =>
    intro ix ox ax wx fl ho hS hfi clo hsz hrest hdone hund
    have t25 := (hrest 25 (not_of (by kernel_rfl))).trans s25_6
    have hs : ax.tmps.size = 105 := hsz.trans z6
    have hi : ix < 2 := (Array.getElem?_eq_some_iff.1 ho).1
    clear hrest hsz hund
    obtain rfl | rfl : ix = 0 ∨ ix = 1 := by omega
    all_goals obtain rfl := Option.some.inj (show some _ = some ox from ho)
    ·
     exact wpOp_val (v := .bool (cc == 2)) (w' := wx) rfl rfl (by (simp [execOp, Act.eval, t25, go_sem]; try (simp only [IntKind.wrap_i64, wrap64]))) ⟨_, rfl, tab_put rfl hs rfl (congrArg Value.bool Ffk6.out), hS.same 0 rfl⟩
    ·
     have s50 : ax.tmps.getD 50 undef = .bool false := (hdone 0 _ rfl rfl).2 _ rfl
     exact wpOp_val (v := .bool false) (w' := wx) rfl rfl (by simp [execOp, Act.eval, s50]) ⟨_, rfl, tab_put rfl hs rfl rfl, hS.same 1 rfl⟩
  intro a7 w7 fl d7 z7 rest7 R7 hfl hS
  obtain ⟨B7, n7, hBs, hAs, hPs⟩ := hS.finish hfl rfl
  replace d7 := d7.trans d6
  replace z7 := z7.trans z6
  obtain ⟨⟨-, b_g1_7⟩, ⟨-, b_g2_7⟩, ⟨-, b_g3_7⟩, ⟨-, b_g4_7⟩, ⟨-, b_g5_7⟩, -⟩ := hBs
  have s5_7 := (rest7 5 (not_of (by kernel_rfl))).trans s5_6
  have s6_7 := (rest7 6 (not_of (by kernel_rfl))).trans s6_6
  have s7_7 := (rest7 7 (not_of (by kernel_rfl))).trans s7_6
  have s8_7 := (rest7 8 (not_of (by kernel_rfl))).trans s8_6
  have s9_7 := (rest7 9 (not_of (by kernel_rfl))).trans s9_6
  have s25_7 := (rest7 25 (not_of (by kernel_rfl))).trans s25_6
  have s49_7 : a7.tmps.getD 49 undef = .bool false := R7 1 _ rfl
  clear R7 rest7 hS hfl hPs hAs
  clear s5_6 s6_6 s7_6 s8_6 s9_6 s25_6 s34_6 b_g1_6 b_g2_6 b_g3_6 b_g4_6 b_g5_6 d6 z6
  refine wp_cond_false (show a7.tmps.getD 49 undef = .bool false from s49_7) ?_
  refine wp_seq ?_
  cases fk7 : cc == 3
  case true =>
   have Ffk7 := Lib.hid fk7; clear fk7
   refine wp_regx (SX W w7.heap.size [⟨g1, 60, (cR a b c d), none, #[]⟩, ⟨g2, 60, (cR p q r t), none, #[]⟩, ⟨g3, 60, (cR 0 0 0 0), none, #[]⟩, ⟨g4, 95, (cU a b), none, #[]⟩, ⟨g5, 99, (cS c d), none, #[]⟩] []) (TabX [fun vx => vx = .bool true, fun vx => vx = .bool true]) (by kernel_rfl) (back_of (by kernel_rfl)) (dst_of (by kernel_rfl)) (in_ofz (by kernel_rfl) z7) (fun fl w1 hfl hw => SX.start' hw B7 hfl rfl ⟨b_g1_7, b_g2_7, b_g3_7, b_g4_7, b_g5_7, trivial⟩) ?h25 ?_
   case h25 =>
     intro ix ox ax wx fl ho hS hfi clo hsz hrest hdone hund
     have t25 := (hrest 25 (not_of (by kernel_rfl))).trans s25_7
     have hs : ax.tmps.size = 105 := hsz.trans z7
     have hi : ix < 2 := (Array.getElem?_eq_some_iff.1 ho).1
     clear hrest hsz hund
     obtain rfl | rfl : ix = 0 ∨ ix = 1 := by omega
     all_goals obtain rfl := Option.some.inj (show some _ = some ox from ho)
     ·
      exact wpOp_val (v := .bool (cc == 3)) (w' := wx) rfl rfl (by (simp [execOp, Act.eval, t25, go_sem]; try (simp only [IntKind.wrap_i64, wrap64]))) ⟨_, rfl, tab_put rfl hs rfl (congrArg Value.bool Ffk7.out), hS.same 0 rfl⟩
     ·
      have s56 : ax.tmps.getD 56 undef = .bool true := (hdone 0 _ rfl rfl).2 _ rfl
      exact wpOp_val (v := .bool true) (w' := wx) rfl rfl (by simp [execOp, Act.eval, s56]) ⟨_, rfl, tab_put rfl hs rfl rfl, hS.same 1 rfl⟩
   intro a8 w8 fl d8 z8 rest8 R8 hfl hS
   obtain ⟨B8, n8, hBs, hAs, hPs⟩ := hS.finish hfl rfl
   replace d8 := d8.trans d7
   replace z8 := z8.trans z7
   obtain ⟨⟨-, b_g1_8⟩, ⟨-, b_g2_8⟩, ⟨-, b_g3_8⟩, ⟨-, b_g4_8⟩, ⟨-, b_g5_8⟩, -⟩ := hBs
   have s5_8 := (rest8 5 (not_of (by kernel_rfl))).trans s5_7
   have s6_8 := (rest8 6 (not_of (by kernel_rfl))).trans s6_7
   have s7_8 := (rest8 7 (not_of (by kernel_rfl))).trans s7_7
   have s8_8 := (rest8 8 (not_of (by kernel_rfl))).trans s8_7
   have s9_8 := (rest8 9 (not_of (by kernel_rfl))).trans s9_7
   have s25_8 := (rest8 25 (not_of (by kernel_rfl))).trans s25_7
   have s55_8 : a8.tmps.getD 55 undef = .bool true := R8 1 _ rfl
   clear R8 rest8 hS hfl hPs hAs
   clear s5_7 s6_7 s7_7 s8_7 s9_7 s25_7 s49_7 b_g1_7 b_g2_7 b_g3_7 b_g4_7 b_g5_7 d7 z7
   refine wp_cond_true (show a8.tmps.getD 55 undef = .bool true from s55_8) ?_
   refine wp_regx (SX W w8.heap.size [⟨g1, 60, (cR a b c d), none, #[]⟩, ⟨g2, 60, (cR p q r t), none, #[]⟩, ⟨g3, 60, (cR 0 0 0 0), none, #[]⟩, ⟨g4, 95, (cU a b), some 4, (cU ((Pr.atLeast ⟨a, b⟩ ⟨p, q⟩).lo) ((Pr.atLeast ⟨a, b⟩ ⟨p, q⟩).hi))⟩, ⟨g5, 99, (cS c d), none, #[]⟩] []) (TabX [fun vx => vx = .agg #[.int .u64 a, .int .u64 b], fun vx => vx = .agg #[.int .u64 p, .int .u64 q, .int .i64 r, .int .i64 t], fun vx => vx = .agg #[.int .u64 p, .int .u64 q], fun vx => vx = .agg #[.int .u64 ((Pr.atLeast ⟨a, b⟩ ⟨p, q⟩).lo), .int .u64 ((Pr.atLeast ⟨a, b⟩ ⟨p, q⟩).hi)], fun _ => True]) (by kernel_rfl) (back_of (by kernel_rfl)) (dst_of (by kernel_rfl)) (in_ofz (by kernel_rfl) z8) (fun fl w1 hfl hw => SX.start' hw B8 hfl rfl ⟨b_g1_8, b_g2_8, b_g3_8, b_g4_8, b_g5_8, trivial⟩) ?h26 ?_
   case h26 =>
     intro ix ox ax wx fl ho hS hfi clo hsz hrest hdone hund
     have t5 := (hrest 5 (not_of (by kernel_rfl))).trans s5_8
     have t8 := (hrest 8 (not_of (by kernel_rfl))).trans s8_8
     have hs : ax.tmps.size = 105 := hsz.trans z8
     have hi : ix < 5 := (Array.getElem?_eq_some_iff.1 ho).1
     clear hrest hsz hund
     obtain rfl | rfl | rfl | rfl | rfl : ix = 0 ∨ ix = 1 ∨ ix = 2 ∨ ix = 3 ∨ ix = 4 := by omega
     all_goals obtain rfl := Option.some.inj (show some _ = some ox from ho)
     ·
      have hr := hS.rowFi 3 rfl (not_yet clo hfi (by kernel_rfl))
      exact wpOp_val (v := .agg #[.int .u64 a, .int .u64 b]) (w' := wx) rfl rfl (exec_loadR 95 _ rfl g4 0 (show ax.eval (.tmp 8) = .pointer (some ⟨g4, 0, none⟩) from t8) hr [.int .u64 a, .int .u64 b] rfl _ Try.underlying95 rfl (by kernel_rfl)) ⟨_, rfl, tab_put rfl hs rfl rfl, hS.same 0 rfl⟩
     ·
      have hr := hS.rowNi 1 rfl
      exact wpOp_val (v := .agg #[.int .u64 p, .int .u64 q, .int .i64 r, .int .i64 t]) (w' := wx) rfl rfl (exec_loadR 60 _ rfl g2 0 (show ax.eval (.tmp 5) = .pointer (some ⟨g2, 0, none⟩) from t5) hr [.int .u64 p, .int .u64 q, .int .i64 r, .int .i64 t] rfl _ Try.underlying60 rfl (by kernel_rfl)) ⟨_, rfl, tab_put rfl hs rfl rfl, hS.same 1 rfl⟩
     ·
      have s58 : ax.tmps.getD 58 undef = .agg #[.int .u64 p, .int .u64 q, .int .i64 r, .int .i64 t] := (hdone 0 _ rfl rfl).2 _ rfl
      refine wpOp_call (args := #[.agg #[.int .u64 p, .int .u64 q, .int .i64 r, .int .i64 t]]) rfl rfl (exec_call rfl rfl rfl (args1 (show ax.eval (.tmp 58) = .agg #[.int .u64 p, .int .u64 q, .int .i64 r, .int .i64 t] from s58)) Try.func61 (by decide +kernel) rfl) ?_
      · refine (unsigned_n p q r t wx).mono ?_
        rintro e w' ⟨rfl, b9⟩
        exact ⟨_, rfl, _, rfl, tab_put rfl hs rfl rfl, hS.quiet 2 rfl b9⟩
     ·
      have s57 : ax.tmps.getD 57 undef = .agg #[.int .u64 a, .int .u64 b] := (hdone 0 _ rfl rfl).2 _ rfl
      have s59 : ax.tmps.getD 59 undef = .agg #[.int .u64 p, .int .u64 q] := (hdone 1 _ rfl rfl).2 _ rfl
      refine wpOp_call (args := #[.agg #[.int .u64 a, .int .u64 b], .agg #[.int .u64 p, .int .u64 q]]) rfl rfl (exec_call rfl rfl rfl (args2 (show ax.eval (.tmp 57) = .agg #[.int .u64 a, .int .u64 b] from s57) (show ax.eval (.tmp 59) = .agg #[.int .u64 p, .int .u64 q] from s59)) Try.func68 (by decide +kernel) rfl) ?_
      · refine (atLeastU_n a b p q wx).mono ?_
        rintro e w' ⟨rfl, b9⟩
        exact ⟨_, rfl, _, rfl, tab_put rfl hs rfl rfl, hS.quiet 3 rfl b9⟩
     ·
      have s60 : ax.tmps.getD 60 undef = .agg #[.int .u64 ((Pr.atLeast ⟨a, b⟩ ⟨p, q⟩).lo), .int .u64 ((Pr.atLeast ⟨a, b⟩ ⟨p, q⟩).hi)] := (hdone 0 _ rfl rfl).2 _ rfl
      have hr := hS.rowFi 3 rfl hfi
      exact wpOp_skp (w' := wx.setRow g4 #[.int .u64 ((Pr.atLeast ⟨a, b⟩ ⟨p, q⟩).lo), .int .u64 ((Pr.atLeast ⟨a, b⟩ ⟨p, q⟩).hi)]) rfl rfl (exec_storeR 95 _ _ rfl g4 #[.int .u64 ((Pr.atLeast ⟨a, b⟩ ⟨p, q⟩).lo), .int .u64 ((Pr.atLeast ⟨a, b⟩ ⟨p, q⟩).hi)] (show ax.eval (.tmp 8) = .pointer (some ⟨g4, 0, none⟩) from t8) (show ax.eval (.tmp 60) = .agg #[.int .u64 ((Pr.atLeast ⟨a, b⟩ ⟨p, q⟩).lo), .int .u64 ((Pr.atLeast ⟨a, b⟩ ⟨p, q⟩).hi)] from s60) hr (by kernel_rfl) rfl (by simp [Value.oneCell'])) ⟨undef, rfl, trivial, hS.storeBi 4 3 rfl q_g4 rfl ⟨(show g1 ≠ g4 by omega), (show g2 ≠ g4 by omega), (show g3 ≠ g4 by omega), (show g5 ≠ g4 by omega), trivial⟩ (stored_setRow wx g4 _ _ _ hr)⟩
   intro a9 w9 fl d9 z9 rest9 R9 hfl hS
   obtain ⟨B9, n9, hBs, hAs, hPs⟩ := hS.finish hfl rfl
   replace d9 := d9.trans d8
   replace z9 := z9.trans z8
   obtain ⟨⟨-, b_g1_9⟩, ⟨-, b_g2_9⟩, ⟨-, b_g3_9⟩, ⟨-, b_g4_9⟩, ⟨-, b_g5_9⟩, -⟩ := hBs
   have s6_9 := (rest9 6 (not_of (by kernel_rfl))).trans s6_8
   have s7_9 := (rest9 7 (not_of (by kernel_rfl))).trans s7_8
   have s8_9 := (rest9 8 (not_of (by kernel_rfl))).trans s8_8
   have s9_9 := (rest9 9 (not_of (by kernel_rfl))).trans s9_8
   clear R9 rest9 hS hfl hPs hAs
   clear s5_8 s6_8 s7_8 s8_8 s9_8 s25_8 s55_8 b_g1_8 b_g2_8 b_g3_8 b_g4_8 b_g5_8 d8 z8
   refine wp_seq ?_
   refine wp_regx (SX W w9.heap.size [⟨g1, 60, (cR a b c d), none, #[]⟩, ⟨g2, 60, (cR p q r t), none, #[]⟩, ⟨g3, 60, (cR 0 0 0 0), some 6, (cR ((Rg.nar ⟨Pr.atLeast ⟨a, b⟩ ⟨p, q⟩, ⟨c, d⟩⟩).u.lo) ((Rg.nar ⟨Pr.atLeast ⟨a, b⟩ ⟨p, q⟩, ⟨c, d⟩⟩).u.hi) ((Rg.nar ⟨Pr.atLeast ⟨a, b⟩ ⟨p, q⟩, ⟨c, d⟩⟩).s.lo) ((Rg.nar ⟨Pr.atLeast ⟨a, b⟩ ⟨p, q⟩, ⟨c, d⟩⟩).s.hi))⟩, ⟨g4, 95, (cU ((Pr.atLeast ⟨a, b⟩ ⟨p, q⟩).lo) ((Pr.atLeast ⟨a, b⟩ ⟨p, q⟩).hi)), none, #[]⟩, ⟨g5, 99, (cS c d), none, #[]⟩] []) (TabX [fun vx => vx = .agg #[.int .u64 ((Pr.atLeast ⟨a, b⟩ ⟨p, q⟩).lo), .int .u64 ((Pr.atLeast ⟨a, b⟩ ⟨p, q⟩).hi)], fun vx => vx = .agg #[.int .i64 c, .int .i64 d], fun vx => vx = .agg #[.int .u64 ((Pr.atLeast ⟨a, b⟩ ⟨p, q⟩).lo), .int .u64 ((Pr.atLeast ⟨a, b⟩ ⟨p, q⟩).hi), .int .i64 c, .int .i64 d], fun vx => vx = .tuple #[.agg #[.int .u64 ((Rg.nar ⟨Pr.atLeast ⟨a, b⟩ ⟨p, q⟩, ⟨c, d⟩⟩).u.lo), .int .u64 ((Rg.nar ⟨Pr.atLeast ⟨a, b⟩ ⟨p, q⟩, ⟨c, d⟩⟩).u.hi), .int .i64 ((Rg.nar ⟨Pr.atLeast ⟨a, b⟩ ⟨p, q⟩, ⟨c, d⟩⟩).s.lo), .int .i64 ((Rg.nar ⟨Pr.atLeast ⟨a, b⟩ ⟨p, q⟩, ⟨c, d⟩⟩).s.hi)], .bool (Rg.narB ⟨Pr.atLeast ⟨a, b⟩ ⟨p, q⟩, ⟨c, d⟩⟩)], fun vx => vx = .agg #[.int .u64 ((Rg.nar ⟨Pr.atLeast ⟨a, b⟩ ⟨p, q⟩, ⟨c, d⟩⟩).u.lo), .int .u64 ((Rg.nar ⟨Pr.atLeast ⟨a, b⟩ ⟨p, q⟩, ⟨c, d⟩⟩).u.hi), .int .i64 ((Rg.nar ⟨Pr.atLeast ⟨a, b⟩ ⟨p, q⟩, ⟨c, d⟩⟩).s.lo), .int .i64 ((Rg.nar ⟨Pr.atLeast ⟨a, b⟩ ⟨p, q⟩, ⟨c, d⟩⟩).s.hi)], fun vx => vx = .bool (Rg.narB ⟨Pr.atLeast ⟨a, b⟩ ⟨p, q⟩, ⟨c, d⟩⟩), fun _ => True, fun vx => vx = .bool (Rg.narB ⟨Pr.atLeast ⟨a, b⟩ ⟨p, q⟩, ⟨c, d⟩⟩)]) (by kernel_rfl) (back_of (by kernel_rfl)) (dst_of (by kernel_rfl)) (in_ofz (by kernel_rfl) z9) (fun fl w1 hfl hw => SX.start' hw B9 hfl rfl ⟨b_g1_9, b_g2_9, b_g3_9, b_g4_9, b_g5_9, trivial⟩) ?h27 ?_
   case h27 =>
     intro ix ox ax wx fl ho hS hfi clo hsz hrest hdone hund
     have t6 := (hrest 6 (not_of (by kernel_rfl))).trans s6_9
     have t8 := (hrest 8 (not_of (by kernel_rfl))).trans s8_9
     have t9 := (hrest 9 (not_of (by kernel_rfl))).trans s9_9
     have hs : ax.tmps.size = 105 := hsz.trans z9
     have hi : ix < 8 := (Array.getElem?_eq_some_iff.1 ho).1
     clear hrest hsz hund
     obtain rfl | rfl | rfl | rfl | rfl | rfl | rfl | rfl : ix = 0 ∨ ix = 1 ∨ ix = 2 ∨ ix = 3 ∨ ix = 4 ∨ ix = 5 ∨ ix = 6 ∨ ix = 7 := by omega
     all_goals obtain rfl := Option.some.inj (show some _ = some ox from ho)
     ·
      have hr := hS.rowNi 3 rfl
      exact wpOp_val (v := .agg #[.int .u64 ((Pr.atLeast ⟨a, b⟩ ⟨p, q⟩).lo), .int .u64 ((Pr.atLeast ⟨a, b⟩ ⟨p, q⟩).hi)]) (w' := wx) rfl rfl (exec_loadR 95 _ rfl g4 0 (show ax.eval (.tmp 8) = .pointer (some ⟨g4, 0, none⟩) from t8) hr [.int .u64 ((Pr.atLeast ⟨a, b⟩ ⟨p, q⟩).lo), .int .u64 ((Pr.atLeast ⟨a, b⟩ ⟨p, q⟩).hi)] rfl _ Try.underlying95 rfl (by kernel_rfl)) ⟨_, rfl, tab_put rfl hs rfl rfl, hS.same 0 rfl⟩
     ·
      have hr := hS.rowNi 4 rfl
      exact wpOp_val (v := .agg #[.int .i64 c, .int .i64 d]) (w' := wx) rfl rfl (exec_loadR 99 _ rfl g5 0 (show ax.eval (.tmp 9) = .pointer (some ⟨g5, 0, none⟩) from t9) hr [.int .i64 c, .int .i64 d] rfl _ Try.underlying99 rfl (by kernel_rfl)) ⟨_, rfl, tab_put rfl hs rfl rfl, hS.same 1 rfl⟩
     ·
      have s99 : ax.tmps.getD 99 undef = .agg #[.int .u64 ((Pr.atLeast ⟨a, b⟩ ⟨p, q⟩).lo), .int .u64 ((Pr.atLeast ⟨a, b⟩ ⟨p, q⟩).hi)] := (hdone 0 _ rfl rfl).2 _ rfl
      have s100 : ax.tmps.getD 100 undef = .agg #[.int .i64 c, .int .i64 d] := (hdone 1 _ rfl rfl).2 _ rfl
      refine wpOp_call (args := #[.agg #[.int .u64 ((Pr.atLeast ⟨a, b⟩ ⟨p, q⟩).lo), .int .u64 ((Pr.atLeast ⟨a, b⟩ ⟨p, q⟩).hi)], .agg #[.int .i64 c, .int .i64 d]]) rfl rfl (exec_call rfl rfl rfl (args2 (show ax.eval (.tmp 99) = .agg #[.int .u64 ((Pr.atLeast ⟨a, b⟩ ⟨p, q⟩).lo), .int .u64 ((Pr.atLeast ⟨a, b⟩ ⟨p, q⟩).hi)] from s99) (show ax.eval (.tmp 100) = .agg #[.int .i64 c, .int .i64 d] from s100)) Try.func60 (by decide +kernel) rfl) ?_
      · refine (both_n ((Pr.atLeast ⟨a, b⟩ ⟨p, q⟩).lo) ((Pr.atLeast ⟨a, b⟩ ⟨p, q⟩).hi) c d wx).mono ?_
        rintro e w' ⟨rfl, b9⟩
        exact ⟨_, rfl, _, rfl, tab_put rfl hs rfl rfl, hS.quiet 2 rfl b9⟩
     ·
      have s101 : ax.tmps.getD 101 undef = .agg #[.int .u64 ((Pr.atLeast ⟨a, b⟩ ⟨p, q⟩).lo), .int .u64 ((Pr.atLeast ⟨a, b⟩ ⟨p, q⟩).hi), .int .i64 c, .int .i64 d] := (hdone 0 _ rfl rfl).2 _ rfl
      refine wpOp_call (args := #[.agg #[.int .u64 ((Pr.atLeast ⟨a, b⟩ ⟨p, q⟩).lo), .int .u64 ((Pr.atLeast ⟨a, b⟩ ⟨p, q⟩).hi), .int .i64 c, .int .i64 d]]) rfl rfl (exec_call rfl rfl rfl (args1 (show ax.eval (.tmp 101) = .agg #[.int .u64 ((Pr.atLeast ⟨a, b⟩ ⟨p, q⟩).lo), .int .u64 ((Pr.atLeast ⟨a, b⟩ ⟨p, q⟩).hi), .int .i64 c, .int .i64 d] from s101)) Try.func28 (by decide +kernel) rfl) ?_
      · refine (narrow_n ((Pr.atLeast ⟨a, b⟩ ⟨p, q⟩).lo) ((Pr.atLeast ⟨a, b⟩ ⟨p, q⟩).hi) c d wx (by have hh := (giv_ok cc (a := ⟨⟨a, b⟩, ⟨c, d⟩⟩) (b := ⟨⟨p, q⟩, ⟨r, t⟩⟩) HA.out HB.out Ffk1.out); unfold givC at hh; simp only [if_neg (nb Ffk3.out), if_neg (nb Ffk4.out), if_neg (nb Ffk6.out), if_pos (yb Ffk7.out)] at hh; exact hh)).mono ?_
        rintro e w' ⟨rfl, b9⟩
        exact ⟨_, rfl, _, rfl, tab_put rfl hs rfl rfl, hS.quiet 3 rfl b9⟩
     ·
      have s102 : ax.tmps.getD 102 undef = .tuple #[.agg #[.int .u64 ((Rg.nar ⟨Pr.atLeast ⟨a, b⟩ ⟨p, q⟩, ⟨c, d⟩⟩).u.lo), .int .u64 ((Rg.nar ⟨Pr.atLeast ⟨a, b⟩ ⟨p, q⟩, ⟨c, d⟩⟩).u.hi), .int .i64 ((Rg.nar ⟨Pr.atLeast ⟨a, b⟩ ⟨p, q⟩, ⟨c, d⟩⟩).s.lo), .int .i64 ((Rg.nar ⟨Pr.atLeast ⟨a, b⟩ ⟨p, q⟩, ⟨c, d⟩⟩).s.hi)], .bool (Rg.narB ⟨Pr.atLeast ⟨a, b⟩ ⟨p, q⟩, ⟨c, d⟩⟩)] := (hdone 0 _ rfl rfl).2 _ rfl
      exact wpOp_val (v := .agg #[.int .u64 ((Rg.nar ⟨Pr.atLeast ⟨a, b⟩ ⟨p, q⟩, ⟨c, d⟩⟩).u.lo), .int .u64 ((Rg.nar ⟨Pr.atLeast ⟨a, b⟩ ⟨p, q⟩, ⟨c, d⟩⟩).u.hi), .int .i64 ((Rg.nar ⟨Pr.atLeast ⟨a, b⟩ ⟨p, q⟩, ⟨c, d⟩⟩).s.lo), .int .i64 ((Rg.nar ⟨Pr.atLeast ⟨a, b⟩ ⟨p, q⟩, ⟨c, d⟩⟩).s.hi)]) (w' := wx) rfl rfl (by simp [execOp, Act.eval, s102, go_sem]) ⟨_, rfl, tab_put rfl hs rfl rfl, hS.same 4 rfl⟩
     ·
      have s102 : ax.tmps.getD 102 undef = .tuple #[.agg #[.int .u64 ((Rg.nar ⟨Pr.atLeast ⟨a, b⟩ ⟨p, q⟩, ⟨c, d⟩⟩).u.lo), .int .u64 ((Rg.nar ⟨Pr.atLeast ⟨a, b⟩ ⟨p, q⟩, ⟨c, d⟩⟩).u.hi), .int .i64 ((Rg.nar ⟨Pr.atLeast ⟨a, b⟩ ⟨p, q⟩, ⟨c, d⟩⟩).s.lo), .int .i64 ((Rg.nar ⟨Pr.atLeast ⟨a, b⟩ ⟨p, q⟩, ⟨c, d⟩⟩).s.hi)], .bool (Rg.narB ⟨Pr.atLeast ⟨a, b⟩ ⟨p, q⟩, ⟨c, d⟩⟩)] := (hdone 0 _ rfl rfl).2 _ rfl
      exact wpOp_val (v := .bool (Rg.narB ⟨Pr.atLeast ⟨a, b⟩ ⟨p, q⟩, ⟨c, d⟩⟩)) (w' := wx) rfl rfl (by simp [execOp, Act.eval, s102, go_sem]) ⟨_, rfl, tab_put rfl hs rfl rfl, hS.same 5 rfl⟩
     ·
      have s103 : ax.tmps.getD 103 undef = .agg #[.int .u64 ((Rg.nar ⟨Pr.atLeast ⟨a, b⟩ ⟨p, q⟩, ⟨c, d⟩⟩).u.lo), .int .u64 ((Rg.nar ⟨Pr.atLeast ⟨a, b⟩ ⟨p, q⟩, ⟨c, d⟩⟩).u.hi), .int .i64 ((Rg.nar ⟨Pr.atLeast ⟨a, b⟩ ⟨p, q⟩, ⟨c, d⟩⟩).s.lo), .int .i64 ((Rg.nar ⟨Pr.atLeast ⟨a, b⟩ ⟨p, q⟩, ⟨c, d⟩⟩).s.hi)] := (hdone 0 _ rfl rfl).2 _ rfl
      have hr := hS.rowFi 2 rfl hfi
      exact wpOp_skp (w' := wx.setRow g3 #[.int .u64 ((Rg.nar ⟨Pr.atLeast ⟨a, b⟩ ⟨p, q⟩, ⟨c, d⟩⟩).u.lo), .int .u64 ((Rg.nar ⟨Pr.atLeast ⟨a, b⟩ ⟨p, q⟩, ⟨c, d⟩⟩).u.hi), .int .i64 ((Rg.nar ⟨Pr.atLeast ⟨a, b⟩ ⟨p, q⟩, ⟨c, d⟩⟩).s.lo), .int .i64 ((Rg.nar ⟨Pr.atLeast ⟨a, b⟩ ⟨p, q⟩, ⟨c, d⟩⟩).s.hi)]) rfl rfl (exec_storeR 60 _ _ rfl g3 #[.int .u64 ((Rg.nar ⟨Pr.atLeast ⟨a, b⟩ ⟨p, q⟩, ⟨c, d⟩⟩).u.lo), .int .u64 ((Rg.nar ⟨Pr.atLeast ⟨a, b⟩ ⟨p, q⟩, ⟨c, d⟩⟩).u.hi), .int .i64 ((Rg.nar ⟨Pr.atLeast ⟨a, b⟩ ⟨p, q⟩, ⟨c, d⟩⟩).s.lo), .int .i64 ((Rg.nar ⟨Pr.atLeast ⟨a, b⟩ ⟨p, q⟩, ⟨c, d⟩⟩).s.hi)] (show ax.eval (.tmp 6) = .pointer (some ⟨g3, 0, none⟩) from t6) (show ax.eval (.tmp 103) = .agg #[.int .u64 ((Rg.nar ⟨Pr.atLeast ⟨a, b⟩ ⟨p, q⟩, ⟨c, d⟩⟩).u.lo), .int .u64 ((Rg.nar ⟨Pr.atLeast ⟨a, b⟩ ⟨p, q⟩, ⟨c, d⟩⟩).u.hi), .int .i64 ((Rg.nar ⟨Pr.atLeast ⟨a, b⟩ ⟨p, q⟩, ⟨c, d⟩⟩).s.lo), .int .i64 ((Rg.nar ⟨Pr.atLeast ⟨a, b⟩ ⟨p, q⟩, ⟨c, d⟩⟩).s.hi)] from s103) hr (by kernel_rfl) rfl (by simp [Value.oneCell'])) ⟨undef, rfl, trivial, hS.storeBi 6 2 rfl q_g3 rfl ⟨(show g1 ≠ g3 by omega), (show g2 ≠ g3 by omega), (show g4 ≠ g3 by omega), (show g5 ≠ g3 by omega), trivial⟩ (stored_setRow wx g3 _ _ _ hr)⟩
     ·
      have s104 : ax.tmps.getD 104 undef = .bool (Rg.narB ⟨Pr.atLeast ⟨a, b⟩ ⟨p, q⟩, ⟨c, d⟩⟩) := (hdone 0 _ rfl rfl).2 _ rfl
      exact wpOp_val (v := .bool (Rg.narB ⟨Pr.atLeast ⟨a, b⟩ ⟨p, q⟩, ⟨c, d⟩⟩)) (w' := wx) rfl rfl (by simp [execOp, Act.eval, s104]) ⟨_, rfl, tab_put rfl hs rfl rfl, hS.same 7 rfl⟩
   intro a10 w10 fl d10 z10 rest10 R10 hfl hS
   obtain ⟨B10, n10, hBs, hAs, hPs⟩ := hS.finish hfl rfl
   replace d10 := d10.trans d9
   replace z10 := z10.trans z9
   obtain ⟨⟨-, b_g1_10⟩, ⟨-, b_g2_10⟩, ⟨-, b_g3_10⟩, ⟨-, b_g4_10⟩, ⟨-, b_g5_10⟩, -⟩ := hBs
   have s6_10 := (rest10 6 (not_of (by kernel_rfl))).trans s6_9
   have s7_10 : a10.tmps.getD 7 undef = .bool (Rg.narB ⟨Pr.atLeast ⟨a, b⟩ ⟨p, q⟩, ⟨c, d⟩⟩) := R10 7 _ rfl
   clear R10 rest10 hS hfl hPs hAs
   clear s6_9 s7_9 s8_9 s9_9 b_g1_9 b_g2_9 b_g3_9 b_g4_9 b_g5_9 d9 z9
   refine wp_ret ?_
   try simp only [Exit.inBlock, Exit.then]
   refine bodyPost_ret (res_ct (fn := Try.f24) rfl s6_10 (load_row 60 b_g3_10 Try.underlying60 rfl (by kernel_rfl)) s7_10) d10 ?_
   have no0 := nb Ffk3.out
   have no1 := nb Ffk4.out
   have no2 := nb Ffk6.out
   have ho : cc = 3 := yb Ffk7.out
   have hk : ccOk cc = true := by rw [ho]; rfl
   have HD : givC cc ⟨⟨a, b⟩, ⟨c, d⟩⟩ ⟨⟨p, q⟩, ⟨r, t⟩⟩ = ⟨Pr.atLeast ⟨a, b⟩ ⟨p, q⟩, ⟨c, d⟩⟩ := by
     unfold givC
     simp only [if_neg no0, if_neg no1, if_neg no2, if_pos ho]
     try rfl
   have HE : Value.tuple #[.agg #[.int .u64 ((Rg.nar ⟨Pr.atLeast ⟨a, b⟩ ⟨p, q⟩, ⟨c, d⟩⟩).u.lo), .int .u64 ((Rg.nar ⟨Pr.atLeast ⟨a, b⟩ ⟨p, q⟩, ⟨c, d⟩⟩).u.hi), .int .i64 ((Rg.nar ⟨Pr.atLeast ⟨a, b⟩ ⟨p, q⟩, ⟨c, d⟩⟩).s.lo), .int .i64 ((Rg.nar ⟨Pr.atLeast ⟨a, b⟩ ⟨p, q⟩, ⟨c, d⟩⟩).s.hi)], .bool (Rg.narB ⟨Pr.atLeast ⟨a, b⟩ ⟨p, q⟩, ⟨c, d⟩⟩)] = .tuple #[Rg.val (Rg.giv cc ⟨⟨a, b⟩, ⟨c, d⟩⟩ ⟨⟨p, q⟩, ⟨r, t⟩⟩), .bool (Rg.givB cc ⟨⟨a, b⟩, ⟨c, d⟩⟩ ⟨⟨p, q⟩, ⟨r, t⟩⟩)] := by unfold Rg.giv Rg.givB; rw [Ffk1.out, Ffk2.out, hk, if_pos (by rfl), HD]; rfl
   exact ⟨retV HE, B10⟩
  have Ffk7 := Lib.hid fk7; clear fk7
  refine wp_regx (SX W w7.heap.size [⟨g1, 60, (cR a b c d), none, #[]⟩, ⟨g2, 60, (cR p q r t), none, #[]⟩, ⟨g3, 60, (cR 0 0 0 0), none, #[]⟩, ⟨g4, 95, (cU a b), none, #[]⟩, ⟨g5, 99, (cS c d), none, #[]⟩] []) (TabX [fun vx => vx = .bool false, fun vx => vx = .bool false]) (by kernel_rfl) (back_of (by kernel_rfl)) (dst_of (by kernel_rfl)) (in_ofz (by kernel_rfl) z7) (fun fl w1 hfl hw => SX.start' hw B7 hfl rfl ⟨b_g1_7, b_g2_7, b_g3_7, b_g4_7, b_g5_7, trivial⟩) ?h28 ?_
  case h28 =>
    intro ix ox ax wx fl ho hS hfi clo hsz hrest hdone hund
    have t25 := (hrest 25 (not_of (by kernel_rfl))).trans s25_7
    have hs : ax.tmps.size = 105 := hsz.trans z7
    have hi : ix < 2 := (Array.getElem?_eq_some_iff.1 ho).1
    clear hrest hsz hund
    obtain rfl | rfl : ix = 0 ∨ ix = 1 := by omega
    all_goals obtain rfl := Option.some.inj (show some _ = some ox from ho)
    ·
     exact wpOp_val (v := .bool (cc == 3)) (w' := wx) rfl rfl (by (simp [execOp, Act.eval, t25, go_sem]; try (simp only [IntKind.wrap_i64, wrap64]))) ⟨_, rfl, tab_put rfl hs rfl (congrArg Value.bool Ffk7.out), hS.same 0 rfl⟩
    ·
     have s56 : ax.tmps.getD 56 undef = .bool false := (hdone 0 _ rfl rfl).2 _ rfl
     exact wpOp_val (v := .bool false) (w' := wx) rfl rfl (by simp [execOp, Act.eval, s56]) ⟨_, rfl, tab_put rfl hs rfl rfl, hS.same 1 rfl⟩
  intro a8 w8 fl d8 z8 rest8 R8 hfl hS
  obtain ⟨B8, n8, hBs, hAs, hPs⟩ := hS.finish hfl rfl
  replace d8 := d8.trans d7
  replace z8 := z8.trans z7
  obtain ⟨⟨-, b_g1_8⟩, ⟨-, b_g2_8⟩, ⟨-, b_g3_8⟩, ⟨-, b_g4_8⟩, ⟨-, b_g5_8⟩, -⟩ := hBs
  have s5_8 := (rest8 5 (not_of (by kernel_rfl))).trans s5_7
  have s6_8 := (rest8 6 (not_of (by kernel_rfl))).trans s6_7
  have s7_8 := (rest8 7 (not_of (by kernel_rfl))).trans s7_7
  have s8_8 := (rest8 8 (not_of (by kernel_rfl))).trans s8_7
  have s9_8 := (rest8 9 (not_of (by kernel_rfl))).trans s9_7
  have s25_8 := (rest8 25 (not_of (by kernel_rfl))).trans s25_7
  have s55_8 : a8.tmps.getD 55 undef = .bool false := R8 1 _ rfl
  clear R8 rest8 hS hfl hPs hAs
  clear s5_7 s6_7 s7_7 s8_7 s9_7 s25_7 s49_7 b_g1_7 b_g2_7 b_g3_7 b_g4_7 b_g5_7 d7 z7
  refine wp_cond_false (show a8.tmps.getD 55 undef = .bool false from s55_8) ?_
  refine wp_seq ?_
  cases fk8 : cc == 4
  case true =>
   have Ffk8 := Lib.hid fk8; clear fk8
   refine wp_regx (SX W w8.heap.size [⟨g1, 60, (cR a b c d), none, #[]⟩, ⟨g2, 60, (cR p q r t), none, #[]⟩, ⟨g3, 60, (cR 0 0 0 0), none, #[]⟩, ⟨g4, 95, (cU a b), none, #[]⟩, ⟨g5, 99, (cS c d), none, #[]⟩] []) (TabX [fun vx => vx = .bool true, fun vx => vx = .bool true]) (by kernel_rfl) (back_of (by kernel_rfl)) (dst_of (by kernel_rfl)) (in_ofz (by kernel_rfl) z8) (fun fl w1 hfl hw => SX.start' hw B8 hfl rfl ⟨b_g1_8, b_g2_8, b_g3_8, b_g4_8, b_g5_8, trivial⟩) ?h29 ?_
   case h29 =>
     intro ix ox ax wx fl ho hS hfi clo hsz hrest hdone hund
     have t25 := (hrest 25 (not_of (by kernel_rfl))).trans s25_8
     have hs : ax.tmps.size = 105 := hsz.trans z8
     have hi : ix < 2 := (Array.getElem?_eq_some_iff.1 ho).1
     clear hrest hsz hund
     obtain rfl | rfl : ix = 0 ∨ ix = 1 := by omega
     all_goals obtain rfl := Option.some.inj (show some _ = some ox from ho)
     ·
      exact wpOp_val (v := .bool (cc == 4)) (w' := wx) rfl rfl (by (simp [execOp, Act.eval, t25, go_sem]; try (simp only [IntKind.wrap_i64, wrap64]))) ⟨_, rfl, tab_put rfl hs rfl (congrArg Value.bool Ffk8.out), hS.same 0 rfl⟩
     ·
      have s62 : ax.tmps.getD 62 undef = .bool true := (hdone 0 _ rfl rfl).2 _ rfl
      exact wpOp_val (v := .bool true) (w' := wx) rfl rfl (by simp [execOp, Act.eval, s62]) ⟨_, rfl, tab_put rfl hs rfl rfl, hS.same 1 rfl⟩
   intro a9 w9 fl d9 z9 rest9 R9 hfl hS
   obtain ⟨B9, n9, hBs, hAs, hPs⟩ := hS.finish hfl rfl
   replace d9 := d9.trans d8
   replace z9 := z9.trans z8
   obtain ⟨⟨-, b_g1_9⟩, ⟨-, b_g2_9⟩, ⟨-, b_g3_9⟩, ⟨-, b_g4_9⟩, ⟨-, b_g5_9⟩, -⟩ := hBs
   have s5_9 := (rest9 5 (not_of (by kernel_rfl))).trans s5_8
   have s6_9 := (rest9 6 (not_of (by kernel_rfl))).trans s6_8
   have s7_9 := (rest9 7 (not_of (by kernel_rfl))).trans s7_8
   have s8_9 := (rest9 8 (not_of (by kernel_rfl))).trans s8_8
   have s9_9 := (rest9 9 (not_of (by kernel_rfl))).trans s9_8
   have s25_9 := (rest9 25 (not_of (by kernel_rfl))).trans s25_8
   have s61_9 : a9.tmps.getD 61 undef = .bool true := R9 1 _ rfl
   clear R9 rest9 hS hfl hPs hAs
   clear s5_8 s6_8 s7_8 s8_8 s9_8 s25_8 s55_8 b_g1_8 b_g2_8 b_g3_8 b_g4_8 b_g5_8 d8 z8
   refine wp_cond_true (show a9.tmps.getD 61 undef = .bool true from s61_9) ?_
   refine wp_regx (SX W w9.heap.size [⟨g1, 60, (cR a b c d), none, #[]⟩, ⟨g2, 60, (cR p q r t), none, #[]⟩, ⟨g3, 60, (cR 0 0 0 0), none, #[]⟩, ⟨g4, 95, (cU a b), some 4, (cU ((Pr.below ⟨a, b⟩ ⟨p, q⟩).lo) ((Pr.below ⟨a, b⟩ ⟨p, q⟩).hi))⟩, ⟨g5, 99, (cS c d), none, #[]⟩] []) (TabX [fun vx => vx = .agg #[.int .u64 a, .int .u64 b], fun vx => vx = .agg #[.int .u64 p, .int .u64 q, .int .i64 r, .int .i64 t], fun vx => vx = .agg #[.int .u64 p, .int .u64 q], fun vx => vx = .agg #[.int .u64 ((Pr.below ⟨a, b⟩ ⟨p, q⟩).lo), .int .u64 ((Pr.below ⟨a, b⟩ ⟨p, q⟩).hi)], fun _ => True]) (by kernel_rfl) (back_of (by kernel_rfl)) (dst_of (by kernel_rfl)) (in_ofz (by kernel_rfl) z9) (fun fl w1 hfl hw => SX.start' hw B9 hfl rfl ⟨b_g1_9, b_g2_9, b_g3_9, b_g4_9, b_g5_9, trivial⟩) ?h30 ?_
   case h30 =>
     intro ix ox ax wx fl ho hS hfi clo hsz hrest hdone hund
     have t5 := (hrest 5 (not_of (by kernel_rfl))).trans s5_9
     have t8 := (hrest 8 (not_of (by kernel_rfl))).trans s8_9
     have hs : ax.tmps.size = 105 := hsz.trans z9
     have hi : ix < 5 := (Array.getElem?_eq_some_iff.1 ho).1
     clear hrest hsz hund
     obtain rfl | rfl | rfl | rfl | rfl : ix = 0 ∨ ix = 1 ∨ ix = 2 ∨ ix = 3 ∨ ix = 4 := by omega
     all_goals obtain rfl := Option.some.inj (show some _ = some ox from ho)
     ·
      have hr := hS.rowFi 3 rfl (not_yet clo hfi (by kernel_rfl))
      exact wpOp_val (v := .agg #[.int .u64 a, .int .u64 b]) (w' := wx) rfl rfl (exec_loadR 95 _ rfl g4 0 (show ax.eval (.tmp 8) = .pointer (some ⟨g4, 0, none⟩) from t8) hr [.int .u64 a, .int .u64 b] rfl _ Try.underlying95 rfl (by kernel_rfl)) ⟨_, rfl, tab_put rfl hs rfl rfl, hS.same 0 rfl⟩
     ·
      have hr := hS.rowNi 1 rfl
      exact wpOp_val (v := .agg #[.int .u64 p, .int .u64 q, .int .i64 r, .int .i64 t]) (w' := wx) rfl rfl (exec_loadR 60 _ rfl g2 0 (show ax.eval (.tmp 5) = .pointer (some ⟨g2, 0, none⟩) from t5) hr [.int .u64 p, .int .u64 q, .int .i64 r, .int .i64 t] rfl _ Try.underlying60 rfl (by kernel_rfl)) ⟨_, rfl, tab_put rfl hs rfl rfl, hS.same 1 rfl⟩
     ·
      have s64 : ax.tmps.getD 64 undef = .agg #[.int .u64 p, .int .u64 q, .int .i64 r, .int .i64 t] := (hdone 0 _ rfl rfl).2 _ rfl
      refine wpOp_call (args := #[.agg #[.int .u64 p, .int .u64 q, .int .i64 r, .int .i64 t]]) rfl rfl (exec_call rfl rfl rfl (args1 (show ax.eval (.tmp 64) = .agg #[.int .u64 p, .int .u64 q, .int .i64 r, .int .i64 t] from s64)) Try.func61 (by decide +kernel) rfl) ?_
      · refine (unsigned_n p q r t wx).mono ?_
        rintro e w' ⟨rfl, b9⟩
        exact ⟨_, rfl, _, rfl, tab_put rfl hs rfl rfl, hS.quiet 2 rfl b9⟩
     ·
      have s63 : ax.tmps.getD 63 undef = .agg #[.int .u64 a, .int .u64 b] := (hdone 0 _ rfl rfl).2 _ rfl
      have s65 : ax.tmps.getD 65 undef = .agg #[.int .u64 p, .int .u64 q] := (hdone 1 _ rfl rfl).2 _ rfl
      refine wpOp_call (args := #[.agg #[.int .u64 a, .int .u64 b], .agg #[.int .u64 p, .int .u64 q]]) rfl rfl (exec_call rfl rfl rfl (args2 (show ax.eval (.tmp 63) = .agg #[.int .u64 a, .int .u64 b] from s63) (show ax.eval (.tmp 65) = .agg #[.int .u64 p, .int .u64 q] from s65)) Try.func69 (by decide +kernel) rfl) ?_
      · refine (belowU_n a b p q wx HA.out.1 HB.out.1).mono ?_
        rintro e w' ⟨rfl, b9⟩
        exact ⟨_, rfl, _, rfl, tab_put rfl hs rfl rfl, hS.quiet 3 rfl b9⟩
     ·
      have s66 : ax.tmps.getD 66 undef = .agg #[.int .u64 ((Pr.below ⟨a, b⟩ ⟨p, q⟩).lo), .int .u64 ((Pr.below ⟨a, b⟩ ⟨p, q⟩).hi)] := (hdone 0 _ rfl rfl).2 _ rfl
      have hr := hS.rowFi 3 rfl hfi
      exact wpOp_skp (w' := wx.setRow g4 #[.int .u64 ((Pr.below ⟨a, b⟩ ⟨p, q⟩).lo), .int .u64 ((Pr.below ⟨a, b⟩ ⟨p, q⟩).hi)]) rfl rfl (exec_storeR 95 _ _ rfl g4 #[.int .u64 ((Pr.below ⟨a, b⟩ ⟨p, q⟩).lo), .int .u64 ((Pr.below ⟨a, b⟩ ⟨p, q⟩).hi)] (show ax.eval (.tmp 8) = .pointer (some ⟨g4, 0, none⟩) from t8) (show ax.eval (.tmp 66) = .agg #[.int .u64 ((Pr.below ⟨a, b⟩ ⟨p, q⟩).lo), .int .u64 ((Pr.below ⟨a, b⟩ ⟨p, q⟩).hi)] from s66) hr (by kernel_rfl) rfl (by simp [Value.oneCell'])) ⟨undef, rfl, trivial, hS.storeBi 4 3 rfl q_g4 rfl ⟨(show g1 ≠ g4 by omega), (show g2 ≠ g4 by omega), (show g3 ≠ g4 by omega), (show g5 ≠ g4 by omega), trivial⟩ (stored_setRow wx g4 _ _ _ hr)⟩
   intro a10 w10 fl d10 z10 rest10 R10 hfl hS
   obtain ⟨B10, n10, hBs, hAs, hPs⟩ := hS.finish hfl rfl
   replace d10 := d10.trans d9
   replace z10 := z10.trans z9
   obtain ⟨⟨-, b_g1_10⟩, ⟨-, b_g2_10⟩, ⟨-, b_g3_10⟩, ⟨-, b_g4_10⟩, ⟨-, b_g5_10⟩, -⟩ := hBs
   have s6_10 := (rest10 6 (not_of (by kernel_rfl))).trans s6_9
   have s7_10 := (rest10 7 (not_of (by kernel_rfl))).trans s7_9
   have s8_10 := (rest10 8 (not_of (by kernel_rfl))).trans s8_9
   have s9_10 := (rest10 9 (not_of (by kernel_rfl))).trans s9_9
   clear R10 rest10 hS hfl hPs hAs
   clear s5_9 s6_9 s7_9 s8_9 s9_9 s25_9 s61_9 b_g1_9 b_g2_9 b_g3_9 b_g4_9 b_g5_9 d9 z9
   refine wp_seq ?_
   refine wp_regx (SX W w10.heap.size [⟨g1, 60, (cR a b c d), none, #[]⟩, ⟨g2, 60, (cR p q r t), none, #[]⟩, ⟨g3, 60, (cR 0 0 0 0), some 6, (cR ((Rg.nar ⟨Pr.below ⟨a, b⟩ ⟨p, q⟩, ⟨c, d⟩⟩).u.lo) ((Rg.nar ⟨Pr.below ⟨a, b⟩ ⟨p, q⟩, ⟨c, d⟩⟩).u.hi) ((Rg.nar ⟨Pr.below ⟨a, b⟩ ⟨p, q⟩, ⟨c, d⟩⟩).s.lo) ((Rg.nar ⟨Pr.below ⟨a, b⟩ ⟨p, q⟩, ⟨c, d⟩⟩).s.hi))⟩, ⟨g4, 95, (cU ((Pr.below ⟨a, b⟩ ⟨p, q⟩).lo) ((Pr.below ⟨a, b⟩ ⟨p, q⟩).hi)), none, #[]⟩, ⟨g5, 99, (cS c d), none, #[]⟩] []) (TabX [fun vx => vx = .agg #[.int .u64 ((Pr.below ⟨a, b⟩ ⟨p, q⟩).lo), .int .u64 ((Pr.below ⟨a, b⟩ ⟨p, q⟩).hi)], fun vx => vx = .agg #[.int .i64 c, .int .i64 d], fun vx => vx = .agg #[.int .u64 ((Pr.below ⟨a, b⟩ ⟨p, q⟩).lo), .int .u64 ((Pr.below ⟨a, b⟩ ⟨p, q⟩).hi), .int .i64 c, .int .i64 d], fun vx => vx = .tuple #[.agg #[.int .u64 ((Rg.nar ⟨Pr.below ⟨a, b⟩ ⟨p, q⟩, ⟨c, d⟩⟩).u.lo), .int .u64 ((Rg.nar ⟨Pr.below ⟨a, b⟩ ⟨p, q⟩, ⟨c, d⟩⟩).u.hi), .int .i64 ((Rg.nar ⟨Pr.below ⟨a, b⟩ ⟨p, q⟩, ⟨c, d⟩⟩).s.lo), .int .i64 ((Rg.nar ⟨Pr.below ⟨a, b⟩ ⟨p, q⟩, ⟨c, d⟩⟩).s.hi)], .bool (Rg.narB ⟨Pr.below ⟨a, b⟩ ⟨p, q⟩, ⟨c, d⟩⟩)], fun vx => vx = .agg #[.int .u64 ((Rg.nar ⟨Pr.below ⟨a, b⟩ ⟨p, q⟩, ⟨c, d⟩⟩).u.lo), .int .u64 ((Rg.nar ⟨Pr.below ⟨a, b⟩ ⟨p, q⟩, ⟨c, d⟩⟩).u.hi), .int .i64 ((Rg.nar ⟨Pr.below ⟨a, b⟩ ⟨p, q⟩, ⟨c, d⟩⟩).s.lo), .int .i64 ((Rg.nar ⟨Pr.below ⟨a, b⟩ ⟨p, q⟩, ⟨c, d⟩⟩).s.hi)], fun vx => vx = .bool (Rg.narB ⟨Pr.below ⟨a, b⟩ ⟨p, q⟩, ⟨c, d⟩⟩), fun _ => True, fun vx => vx = .bool (Rg.narB ⟨Pr.below ⟨a, b⟩ ⟨p, q⟩, ⟨c, d⟩⟩)]) (by kernel_rfl) (back_of (by kernel_rfl)) (dst_of (by kernel_rfl)) (in_ofz (by kernel_rfl) z10) (fun fl w1 hfl hw => SX.start' hw B10 hfl rfl ⟨b_g1_10, b_g2_10, b_g3_10, b_g4_10, b_g5_10, trivial⟩) ?h31 ?_
   case h31 =>
     intro ix ox ax wx fl ho hS hfi clo hsz hrest hdone hund
     have t6 := (hrest 6 (not_of (by kernel_rfl))).trans s6_10
     have t8 := (hrest 8 (not_of (by kernel_rfl))).trans s8_10
     have t9 := (hrest 9 (not_of (by kernel_rfl))).trans s9_10
     have hs : ax.tmps.size = 105 := hsz.trans z10
     have hi : ix < 8 := (Array.getElem?_eq_some_iff.1 ho).1
     clear hrest hsz hund
     obtain rfl | rfl | rfl | rfl | rfl | rfl | rfl | rfl : ix = 0 ∨ ix = 1 ∨ ix = 2 ∨ ix = 3 ∨ ix = 4 ∨ ix = 5 ∨ ix = 6 ∨ ix = 7 := by omega
     all_goals obtain rfl := Option.some.inj (show some _ = some ox from ho)
     ·
      have hr := hS.rowNi 3 rfl
      exact wpOp_val (v := .agg #[.int .u64 ((Pr.below ⟨a, b⟩ ⟨p, q⟩).lo), .int .u64 ((Pr.below ⟨a, b⟩ ⟨p, q⟩).hi)]) (w' := wx) rfl rfl (exec_loadR 95 _ rfl g4 0 (show ax.eval (.tmp 8) = .pointer (some ⟨g4, 0, none⟩) from t8) hr [.int .u64 ((Pr.below ⟨a, b⟩ ⟨p, q⟩).lo), .int .u64 ((Pr.below ⟨a, b⟩ ⟨p, q⟩).hi)] rfl _ Try.underlying95 rfl (by kernel_rfl)) ⟨_, rfl, tab_put rfl hs rfl rfl, hS.same 0 rfl⟩
     ·
      have hr := hS.rowNi 4 rfl
      exact wpOp_val (v := .agg #[.int .i64 c, .int .i64 d]) (w' := wx) rfl rfl (exec_loadR 99 _ rfl g5 0 (show ax.eval (.tmp 9) = .pointer (some ⟨g5, 0, none⟩) from t9) hr [.int .i64 c, .int .i64 d] rfl _ Try.underlying99 rfl (by kernel_rfl)) ⟨_, rfl, tab_put rfl hs rfl rfl, hS.same 1 rfl⟩
     ·
      have s99 : ax.tmps.getD 99 undef = .agg #[.int .u64 ((Pr.below ⟨a, b⟩ ⟨p, q⟩).lo), .int .u64 ((Pr.below ⟨a, b⟩ ⟨p, q⟩).hi)] := (hdone 0 _ rfl rfl).2 _ rfl
      have s100 : ax.tmps.getD 100 undef = .agg #[.int .i64 c, .int .i64 d] := (hdone 1 _ rfl rfl).2 _ rfl
      refine wpOp_call (args := #[.agg #[.int .u64 ((Pr.below ⟨a, b⟩ ⟨p, q⟩).lo), .int .u64 ((Pr.below ⟨a, b⟩ ⟨p, q⟩).hi)], .agg #[.int .i64 c, .int .i64 d]]) rfl rfl (exec_call rfl rfl rfl (args2 (show ax.eval (.tmp 99) = .agg #[.int .u64 ((Pr.below ⟨a, b⟩ ⟨p, q⟩).lo), .int .u64 ((Pr.below ⟨a, b⟩ ⟨p, q⟩).hi)] from s99) (show ax.eval (.tmp 100) = .agg #[.int .i64 c, .int .i64 d] from s100)) Try.func60 (by decide +kernel) rfl) ?_
      · refine (both_n ((Pr.below ⟨a, b⟩ ⟨p, q⟩).lo) ((Pr.below ⟨a, b⟩ ⟨p, q⟩).hi) c d wx).mono ?_
        rintro e w' ⟨rfl, b9⟩
        exact ⟨_, rfl, _, rfl, tab_put rfl hs rfl rfl, hS.quiet 2 rfl b9⟩
     ·
      have s101 : ax.tmps.getD 101 undef = .agg #[.int .u64 ((Pr.below ⟨a, b⟩ ⟨p, q⟩).lo), .int .u64 ((Pr.below ⟨a, b⟩ ⟨p, q⟩).hi), .int .i64 c, .int .i64 d] := (hdone 0 _ rfl rfl).2 _ rfl
      refine wpOp_call (args := #[.agg #[.int .u64 ((Pr.below ⟨a, b⟩ ⟨p, q⟩).lo), .int .u64 ((Pr.below ⟨a, b⟩ ⟨p, q⟩).hi), .int .i64 c, .int .i64 d]]) rfl rfl (exec_call rfl rfl rfl (args1 (show ax.eval (.tmp 101) = .agg #[.int .u64 ((Pr.below ⟨a, b⟩ ⟨p, q⟩).lo), .int .u64 ((Pr.below ⟨a, b⟩ ⟨p, q⟩).hi), .int .i64 c, .int .i64 d] from s101)) Try.func28 (by decide +kernel) rfl) ?_
      · refine (narrow_n ((Pr.below ⟨a, b⟩ ⟨p, q⟩).lo) ((Pr.below ⟨a, b⟩ ⟨p, q⟩).hi) c d wx (by have hh := (giv_ok cc (a := ⟨⟨a, b⟩, ⟨c, d⟩⟩) (b := ⟨⟨p, q⟩, ⟨r, t⟩⟩) HA.out HB.out Ffk1.out); unfold givC at hh; simp only [if_neg (nb Ffk3.out), if_neg (nb Ffk4.out), if_neg (nb Ffk6.out), if_neg (nb Ffk7.out), if_pos (yb Ffk8.out)] at hh; exact hh)).mono ?_
        rintro e w' ⟨rfl, b9⟩
        exact ⟨_, rfl, _, rfl, tab_put rfl hs rfl rfl, hS.quiet 3 rfl b9⟩
     ·
      have s102 : ax.tmps.getD 102 undef = .tuple #[.agg #[.int .u64 ((Rg.nar ⟨Pr.below ⟨a, b⟩ ⟨p, q⟩, ⟨c, d⟩⟩).u.lo), .int .u64 ((Rg.nar ⟨Pr.below ⟨a, b⟩ ⟨p, q⟩, ⟨c, d⟩⟩).u.hi), .int .i64 ((Rg.nar ⟨Pr.below ⟨a, b⟩ ⟨p, q⟩, ⟨c, d⟩⟩).s.lo), .int .i64 ((Rg.nar ⟨Pr.below ⟨a, b⟩ ⟨p, q⟩, ⟨c, d⟩⟩).s.hi)], .bool (Rg.narB ⟨Pr.below ⟨a, b⟩ ⟨p, q⟩, ⟨c, d⟩⟩)] := (hdone 0 _ rfl rfl).2 _ rfl
      exact wpOp_val (v := .agg #[.int .u64 ((Rg.nar ⟨Pr.below ⟨a, b⟩ ⟨p, q⟩, ⟨c, d⟩⟩).u.lo), .int .u64 ((Rg.nar ⟨Pr.below ⟨a, b⟩ ⟨p, q⟩, ⟨c, d⟩⟩).u.hi), .int .i64 ((Rg.nar ⟨Pr.below ⟨a, b⟩ ⟨p, q⟩, ⟨c, d⟩⟩).s.lo), .int .i64 ((Rg.nar ⟨Pr.below ⟨a, b⟩ ⟨p, q⟩, ⟨c, d⟩⟩).s.hi)]) (w' := wx) rfl rfl (by simp [execOp, Act.eval, s102, go_sem]) ⟨_, rfl, tab_put rfl hs rfl rfl, hS.same 4 rfl⟩
     ·
      have s102 : ax.tmps.getD 102 undef = .tuple #[.agg #[.int .u64 ((Rg.nar ⟨Pr.below ⟨a, b⟩ ⟨p, q⟩, ⟨c, d⟩⟩).u.lo), .int .u64 ((Rg.nar ⟨Pr.below ⟨a, b⟩ ⟨p, q⟩, ⟨c, d⟩⟩).u.hi), .int .i64 ((Rg.nar ⟨Pr.below ⟨a, b⟩ ⟨p, q⟩, ⟨c, d⟩⟩).s.lo), .int .i64 ((Rg.nar ⟨Pr.below ⟨a, b⟩ ⟨p, q⟩, ⟨c, d⟩⟩).s.hi)], .bool (Rg.narB ⟨Pr.below ⟨a, b⟩ ⟨p, q⟩, ⟨c, d⟩⟩)] := (hdone 0 _ rfl rfl).2 _ rfl
      exact wpOp_val (v := .bool (Rg.narB ⟨Pr.below ⟨a, b⟩ ⟨p, q⟩, ⟨c, d⟩⟩)) (w' := wx) rfl rfl (by simp [execOp, Act.eval, s102, go_sem]) ⟨_, rfl, tab_put rfl hs rfl rfl, hS.same 5 rfl⟩
     ·
      have s103 : ax.tmps.getD 103 undef = .agg #[.int .u64 ((Rg.nar ⟨Pr.below ⟨a, b⟩ ⟨p, q⟩, ⟨c, d⟩⟩).u.lo), .int .u64 ((Rg.nar ⟨Pr.below ⟨a, b⟩ ⟨p, q⟩, ⟨c, d⟩⟩).u.hi), .int .i64 ((Rg.nar ⟨Pr.below ⟨a, b⟩ ⟨p, q⟩, ⟨c, d⟩⟩).s.lo), .int .i64 ((Rg.nar ⟨Pr.below ⟨a, b⟩ ⟨p, q⟩, ⟨c, d⟩⟩).s.hi)] := (hdone 0 _ rfl rfl).2 _ rfl
      have hr := hS.rowFi 2 rfl hfi
      exact wpOp_skp (w' := wx.setRow g3 #[.int .u64 ((Rg.nar ⟨Pr.below ⟨a, b⟩ ⟨p, q⟩, ⟨c, d⟩⟩).u.lo), .int .u64 ((Rg.nar ⟨Pr.below ⟨a, b⟩ ⟨p, q⟩, ⟨c, d⟩⟩).u.hi), .int .i64 ((Rg.nar ⟨Pr.below ⟨a, b⟩ ⟨p, q⟩, ⟨c, d⟩⟩).s.lo), .int .i64 ((Rg.nar ⟨Pr.below ⟨a, b⟩ ⟨p, q⟩, ⟨c, d⟩⟩).s.hi)]) rfl rfl (exec_storeR 60 _ _ rfl g3 #[.int .u64 ((Rg.nar ⟨Pr.below ⟨a, b⟩ ⟨p, q⟩, ⟨c, d⟩⟩).u.lo), .int .u64 ((Rg.nar ⟨Pr.below ⟨a, b⟩ ⟨p, q⟩, ⟨c, d⟩⟩).u.hi), .int .i64 ((Rg.nar ⟨Pr.below ⟨a, b⟩ ⟨p, q⟩, ⟨c, d⟩⟩).s.lo), .int .i64 ((Rg.nar ⟨Pr.below ⟨a, b⟩ ⟨p, q⟩, ⟨c, d⟩⟩).s.hi)] (show ax.eval (.tmp 6) = .pointer (some ⟨g3, 0, none⟩) from t6) (show ax.eval (.tmp 103) = .agg #[.int .u64 ((Rg.nar ⟨Pr.below ⟨a, b⟩ ⟨p, q⟩, ⟨c, d⟩⟩).u.lo), .int .u64 ((Rg.nar ⟨Pr.below ⟨a, b⟩ ⟨p, q⟩, ⟨c, d⟩⟩).u.hi), .int .i64 ((Rg.nar ⟨Pr.below ⟨a, b⟩ ⟨p, q⟩, ⟨c, d⟩⟩).s.lo), .int .i64 ((Rg.nar ⟨Pr.below ⟨a, b⟩ ⟨p, q⟩, ⟨c, d⟩⟩).s.hi)] from s103) hr (by kernel_rfl) rfl (by simp [Value.oneCell'])) ⟨undef, rfl, trivial, hS.storeBi 6 2 rfl q_g3 rfl ⟨(show g1 ≠ g3 by omega), (show g2 ≠ g3 by omega), (show g4 ≠ g3 by omega), (show g5 ≠ g3 by omega), trivial⟩ (stored_setRow wx g3 _ _ _ hr)⟩
     ·
      have s104 : ax.tmps.getD 104 undef = .bool (Rg.narB ⟨Pr.below ⟨a, b⟩ ⟨p, q⟩, ⟨c, d⟩⟩) := (hdone 0 _ rfl rfl).2 _ rfl
      exact wpOp_val (v := .bool (Rg.narB ⟨Pr.below ⟨a, b⟩ ⟨p, q⟩, ⟨c, d⟩⟩)) (w' := wx) rfl rfl (by simp [execOp, Act.eval, s104]) ⟨_, rfl, tab_put rfl hs rfl rfl, hS.same 7 rfl⟩
   intro a11 w11 fl d11 z11 rest11 R11 hfl hS
   obtain ⟨B11, n11, hBs, hAs, hPs⟩ := hS.finish hfl rfl
   replace d11 := d11.trans d10
   replace z11 := z11.trans z10
   obtain ⟨⟨-, b_g1_11⟩, ⟨-, b_g2_11⟩, ⟨-, b_g3_11⟩, ⟨-, b_g4_11⟩, ⟨-, b_g5_11⟩, -⟩ := hBs
   have s6_11 := (rest11 6 (not_of (by kernel_rfl))).trans s6_10
   have s7_11 : a11.tmps.getD 7 undef = .bool (Rg.narB ⟨Pr.below ⟨a, b⟩ ⟨p, q⟩, ⟨c, d⟩⟩) := R11 7 _ rfl
   clear R11 rest11 hS hfl hPs hAs
   clear s6_10 s7_10 s8_10 s9_10 b_g1_10 b_g2_10 b_g3_10 b_g4_10 b_g5_10 d10 z10
   refine wp_ret ?_
   try simp only [Exit.inBlock, Exit.then]
   refine bodyPost_ret (res_ct (fn := Try.f24) rfl s6_11 (load_row 60 b_g3_11 Try.underlying60 rfl (by kernel_rfl)) s7_11) d11 ?_
   have no0 := nb Ffk3.out
   have no1 := nb Ffk4.out
   have no2 := nb Ffk6.out
   have no3 := nb Ffk7.out
   have ho : cc = 4 := yb Ffk8.out
   have hk : ccOk cc = true := by rw [ho]; rfl
   have HD : givC cc ⟨⟨a, b⟩, ⟨c, d⟩⟩ ⟨⟨p, q⟩, ⟨r, t⟩⟩ = ⟨Pr.below ⟨a, b⟩ ⟨p, q⟩, ⟨c, d⟩⟩ := by
     unfold givC
     simp only [if_neg no0, if_neg no1, if_neg no2, if_neg no3, if_pos ho]
     try rfl
   have HE : Value.tuple #[.agg #[.int .u64 ((Rg.nar ⟨Pr.below ⟨a, b⟩ ⟨p, q⟩, ⟨c, d⟩⟩).u.lo), .int .u64 ((Rg.nar ⟨Pr.below ⟨a, b⟩ ⟨p, q⟩, ⟨c, d⟩⟩).u.hi), .int .i64 ((Rg.nar ⟨Pr.below ⟨a, b⟩ ⟨p, q⟩, ⟨c, d⟩⟩).s.lo), .int .i64 ((Rg.nar ⟨Pr.below ⟨a, b⟩ ⟨p, q⟩, ⟨c, d⟩⟩).s.hi)], .bool (Rg.narB ⟨Pr.below ⟨a, b⟩ ⟨p, q⟩, ⟨c, d⟩⟩)] = .tuple #[Rg.val (Rg.giv cc ⟨⟨a, b⟩, ⟨c, d⟩⟩ ⟨⟨p, q⟩, ⟨r, t⟩⟩), .bool (Rg.givB cc ⟨⟨a, b⟩, ⟨c, d⟩⟩ ⟨⟨p, q⟩, ⟨r, t⟩⟩)] := by unfold Rg.giv Rg.givB; rw [Ffk1.out, Ffk2.out, hk, if_pos (by rfl), HD]; rfl
   exact ⟨retV HE, B11⟩
  have Ffk8 := Lib.hid fk8; clear fk8
  refine wp_regx (SX W w8.heap.size [⟨g1, 60, (cR a b c d), none, #[]⟩, ⟨g2, 60, (cR p q r t), none, #[]⟩, ⟨g3, 60, (cR 0 0 0 0), none, #[]⟩, ⟨g4, 95, (cU a b), none, #[]⟩, ⟨g5, 99, (cS c d), none, #[]⟩] []) (TabX [fun vx => vx = .bool false, fun vx => vx = .bool false]) (by kernel_rfl) (back_of (by kernel_rfl)) (dst_of (by kernel_rfl)) (in_ofz (by kernel_rfl) z8) (fun fl w1 hfl hw => SX.start' hw B8 hfl rfl ⟨b_g1_8, b_g2_8, b_g3_8, b_g4_8, b_g5_8, trivial⟩) ?h32 ?_
  case h32 =>
    intro ix ox ax wx fl ho hS hfi clo hsz hrest hdone hund
    have t25 := (hrest 25 (not_of (by kernel_rfl))).trans s25_8
    have hs : ax.tmps.size = 105 := hsz.trans z8
    have hi : ix < 2 := (Array.getElem?_eq_some_iff.1 ho).1
    clear hrest hsz hund
    obtain rfl | rfl : ix = 0 ∨ ix = 1 := by omega
    all_goals obtain rfl := Option.some.inj (show some _ = some ox from ho)
    ·
     exact wpOp_val (v := .bool (cc == 4)) (w' := wx) rfl rfl (by (simp [execOp, Act.eval, t25, go_sem]; try (simp only [IntKind.wrap_i64, wrap64]))) ⟨_, rfl, tab_put rfl hs rfl (congrArg Value.bool Ffk8.out), hS.same 0 rfl⟩
    ·
     have s62 : ax.tmps.getD 62 undef = .bool false := (hdone 0 _ rfl rfl).2 _ rfl
     exact wpOp_val (v := .bool false) (w' := wx) rfl rfl (by simp [execOp, Act.eval, s62]) ⟨_, rfl, tab_put rfl hs rfl rfl, hS.same 1 rfl⟩
  intro a9 w9 fl d9 z9 rest9 R9 hfl hS
  obtain ⟨B9, n9, hBs, hAs, hPs⟩ := hS.finish hfl rfl
  replace d9 := d9.trans d8
  replace z9 := z9.trans z8
  obtain ⟨⟨-, b_g1_9⟩, ⟨-, b_g2_9⟩, ⟨-, b_g3_9⟩, ⟨-, b_g4_9⟩, ⟨-, b_g5_9⟩, -⟩ := hBs
  have s5_9 := (rest9 5 (not_of (by kernel_rfl))).trans s5_8
  have s6_9 := (rest9 6 (not_of (by kernel_rfl))).trans s6_8
  have s7_9 := (rest9 7 (not_of (by kernel_rfl))).trans s7_8
  have s8_9 := (rest9 8 (not_of (by kernel_rfl))).trans s8_8
  have s9_9 := (rest9 9 (not_of (by kernel_rfl))).trans s9_8
  have s25_9 := (rest9 25 (not_of (by kernel_rfl))).trans s25_8
  have s61_9 : a9.tmps.getD 61 undef = .bool false := R9 1 _ rfl
  clear R9 rest9 hS hfl hPs hAs
  clear s5_8 s6_8 s7_8 s8_8 s9_8 s25_8 s55_8 b_g1_8 b_g2_8 b_g3_8 b_g4_8 b_g5_8 d8 z8
  refine wp_cond_false (show a9.tmps.getD 61 undef = .bool false from s61_9) ?_
  refine wp_seq ?_
  cases fk9 : cc == 5
  case true =>
   have Ffk9 := Lib.hid fk9; clear fk9
   refine wp_regx (SX W w9.heap.size [⟨g1, 60, (cR a b c d), none, #[]⟩, ⟨g2, 60, (cR p q r t), none, #[]⟩, ⟨g3, 60, (cR 0 0 0 0), none, #[]⟩, ⟨g4, 95, (cU a b), none, #[]⟩, ⟨g5, 99, (cS c d), none, #[]⟩] []) (TabX [fun vx => vx = .bool true, fun vx => vx = .bool true]) (by kernel_rfl) (back_of (by kernel_rfl)) (dst_of (by kernel_rfl)) (in_ofz (by kernel_rfl) z9) (fun fl w1 hfl hw => SX.start' hw B9 hfl rfl ⟨b_g1_9, b_g2_9, b_g3_9, b_g4_9, b_g5_9, trivial⟩) ?h33 ?_
   case h33 =>
     intro ix ox ax wx fl ho hS hfi clo hsz hrest hdone hund
     have t25 := (hrest 25 (not_of (by kernel_rfl))).trans s25_9
     have hs : ax.tmps.size = 105 := hsz.trans z9
     have hi : ix < 2 := (Array.getElem?_eq_some_iff.1 ho).1
     clear hrest hsz hund
     obtain rfl | rfl : ix = 0 ∨ ix = 1 := by omega
     all_goals obtain rfl := Option.some.inj (show some _ = some ox from ho)
     ·
      exact wpOp_val (v := .bool (cc == 5)) (w' := wx) rfl rfl (by (simp [execOp, Act.eval, t25, go_sem]; try (simp only [IntKind.wrap_i64, wrap64]))) ⟨_, rfl, tab_put rfl hs rfl (congrArg Value.bool Ffk9.out), hS.same 0 rfl⟩
     ·
      have s68 : ax.tmps.getD 68 undef = .bool true := (hdone 0 _ rfl rfl).2 _ rfl
      exact wpOp_val (v := .bool true) (w' := wx) rfl rfl (by simp [execOp, Act.eval, s68]) ⟨_, rfl, tab_put rfl hs rfl rfl, hS.same 1 rfl⟩
   intro a10 w10 fl d10 z10 rest10 R10 hfl hS
   obtain ⟨B10, n10, hBs, hAs, hPs⟩ := hS.finish hfl rfl
   replace d10 := d10.trans d9
   replace z10 := z10.trans z9
   obtain ⟨⟨-, b_g1_10⟩, ⟨-, b_g2_10⟩, ⟨-, b_g3_10⟩, ⟨-, b_g4_10⟩, ⟨-, b_g5_10⟩, -⟩ := hBs
   have s5_10 := (rest10 5 (not_of (by kernel_rfl))).trans s5_9
   have s6_10 := (rest10 6 (not_of (by kernel_rfl))).trans s6_9
   have s7_10 := (rest10 7 (not_of (by kernel_rfl))).trans s7_9
   have s8_10 := (rest10 8 (not_of (by kernel_rfl))).trans s8_9
   have s9_10 := (rest10 9 (not_of (by kernel_rfl))).trans s9_9
   have s25_10 := (rest10 25 (not_of (by kernel_rfl))).trans s25_9
   have s67_10 : a10.tmps.getD 67 undef = .bool true := R10 1 _ rfl
   clear R10 rest10 hS hfl hPs hAs
   clear s5_9 s6_9 s7_9 s8_9 s9_9 s25_9 s61_9 b_g1_9 b_g2_9 b_g3_9 b_g4_9 b_g5_9 d9 z9
   refine wp_cond_true (show a10.tmps.getD 67 undef = .bool true from s67_10) ?_
   refine wp_regx (SX W w10.heap.size [⟨g1, 60, (cR a b c d), none, #[]⟩, ⟨g2, 60, (cR p q r t), none, #[]⟩, ⟨g3, 60, (cR 0 0 0 0), none, #[]⟩, ⟨g4, 95, (cU a b), some 4, (cU ((Pr.atMost ⟨a, b⟩ ⟨p, q⟩).lo) ((Pr.atMost ⟨a, b⟩ ⟨p, q⟩).hi))⟩, ⟨g5, 99, (cS c d), none, #[]⟩] []) (TabX [fun vx => vx = .agg #[.int .u64 a, .int .u64 b], fun vx => vx = .agg #[.int .u64 p, .int .u64 q, .int .i64 r, .int .i64 t], fun vx => vx = .agg #[.int .u64 p, .int .u64 q], fun vx => vx = .agg #[.int .u64 ((Pr.atMost ⟨a, b⟩ ⟨p, q⟩).lo), .int .u64 ((Pr.atMost ⟨a, b⟩ ⟨p, q⟩).hi)], fun _ => True]) (by kernel_rfl) (back_of (by kernel_rfl)) (dst_of (by kernel_rfl)) (in_ofz (by kernel_rfl) z10) (fun fl w1 hfl hw => SX.start' hw B10 hfl rfl ⟨b_g1_10, b_g2_10, b_g3_10, b_g4_10, b_g5_10, trivial⟩) ?h34 ?_
   case h34 =>
     intro ix ox ax wx fl ho hS hfi clo hsz hrest hdone hund
     have t5 := (hrest 5 (not_of (by kernel_rfl))).trans s5_10
     have t8 := (hrest 8 (not_of (by kernel_rfl))).trans s8_10
     have hs : ax.tmps.size = 105 := hsz.trans z10
     have hi : ix < 5 := (Array.getElem?_eq_some_iff.1 ho).1
     clear hrest hsz hund
     obtain rfl | rfl | rfl | rfl | rfl : ix = 0 ∨ ix = 1 ∨ ix = 2 ∨ ix = 3 ∨ ix = 4 := by omega
     all_goals obtain rfl := Option.some.inj (show some _ = some ox from ho)
     ·
      have hr := hS.rowFi 3 rfl (not_yet clo hfi (by kernel_rfl))
      exact wpOp_val (v := .agg #[.int .u64 a, .int .u64 b]) (w' := wx) rfl rfl (exec_loadR 95 _ rfl g4 0 (show ax.eval (.tmp 8) = .pointer (some ⟨g4, 0, none⟩) from t8) hr [.int .u64 a, .int .u64 b] rfl _ Try.underlying95 rfl (by kernel_rfl)) ⟨_, rfl, tab_put rfl hs rfl rfl, hS.same 0 rfl⟩
     ·
      have hr := hS.rowNi 1 rfl
      exact wpOp_val (v := .agg #[.int .u64 p, .int .u64 q, .int .i64 r, .int .i64 t]) (w' := wx) rfl rfl (exec_loadR 60 _ rfl g2 0 (show ax.eval (.tmp 5) = .pointer (some ⟨g2, 0, none⟩) from t5) hr [.int .u64 p, .int .u64 q, .int .i64 r, .int .i64 t] rfl _ Try.underlying60 rfl (by kernel_rfl)) ⟨_, rfl, tab_put rfl hs rfl rfl, hS.same 1 rfl⟩
     ·
      have s70 : ax.tmps.getD 70 undef = .agg #[.int .u64 p, .int .u64 q, .int .i64 r, .int .i64 t] := (hdone 0 _ rfl rfl).2 _ rfl
      refine wpOp_call (args := #[.agg #[.int .u64 p, .int .u64 q, .int .i64 r, .int .i64 t]]) rfl rfl (exec_call rfl rfl rfl (args1 (show ax.eval (.tmp 70) = .agg #[.int .u64 p, .int .u64 q, .int .i64 r, .int .i64 t] from s70)) Try.func61 (by decide +kernel) rfl) ?_
      · refine (unsigned_n p q r t wx).mono ?_
        rintro e w' ⟨rfl, b9⟩
        exact ⟨_, rfl, _, rfl, tab_put rfl hs rfl rfl, hS.quiet 2 rfl b9⟩
     ·
      have s69 : ax.tmps.getD 69 undef = .agg #[.int .u64 a, .int .u64 b] := (hdone 0 _ rfl rfl).2 _ rfl
      have s71 : ax.tmps.getD 71 undef = .agg #[.int .u64 p, .int .u64 q] := (hdone 1 _ rfl rfl).2 _ rfl
      refine wpOp_call (args := #[.agg #[.int .u64 a, .int .u64 b], .agg #[.int .u64 p, .int .u64 q]]) rfl rfl (exec_call rfl rfl rfl (args2 (show ax.eval (.tmp 69) = .agg #[.int .u64 a, .int .u64 b] from s69) (show ax.eval (.tmp 71) = .agg #[.int .u64 p, .int .u64 q] from s71)) Try.func70 (by decide +kernel) rfl) ?_
      · refine (atMostU_n a b p q wx).mono ?_
        rintro e w' ⟨rfl, b9⟩
        exact ⟨_, rfl, _, rfl, tab_put rfl hs rfl rfl, hS.quiet 3 rfl b9⟩
     ·
      have s72 : ax.tmps.getD 72 undef = .agg #[.int .u64 ((Pr.atMost ⟨a, b⟩ ⟨p, q⟩).lo), .int .u64 ((Pr.atMost ⟨a, b⟩ ⟨p, q⟩).hi)] := (hdone 0 _ rfl rfl).2 _ rfl
      have hr := hS.rowFi 3 rfl hfi
      exact wpOp_skp (w' := wx.setRow g4 #[.int .u64 ((Pr.atMost ⟨a, b⟩ ⟨p, q⟩).lo), .int .u64 ((Pr.atMost ⟨a, b⟩ ⟨p, q⟩).hi)]) rfl rfl (exec_storeR 95 _ _ rfl g4 #[.int .u64 ((Pr.atMost ⟨a, b⟩ ⟨p, q⟩).lo), .int .u64 ((Pr.atMost ⟨a, b⟩ ⟨p, q⟩).hi)] (show ax.eval (.tmp 8) = .pointer (some ⟨g4, 0, none⟩) from t8) (show ax.eval (.tmp 72) = .agg #[.int .u64 ((Pr.atMost ⟨a, b⟩ ⟨p, q⟩).lo), .int .u64 ((Pr.atMost ⟨a, b⟩ ⟨p, q⟩).hi)] from s72) hr (by kernel_rfl) rfl (by simp [Value.oneCell'])) ⟨undef, rfl, trivial, hS.storeBi 4 3 rfl q_g4 rfl ⟨(show g1 ≠ g4 by omega), (show g2 ≠ g4 by omega), (show g3 ≠ g4 by omega), (show g5 ≠ g4 by omega), trivial⟩ (stored_setRow wx g4 _ _ _ hr)⟩
   intro a11 w11 fl d11 z11 rest11 R11 hfl hS
   obtain ⟨B11, n11, hBs, hAs, hPs⟩ := hS.finish hfl rfl
   replace d11 := d11.trans d10
   replace z11 := z11.trans z10
   obtain ⟨⟨-, b_g1_11⟩, ⟨-, b_g2_11⟩, ⟨-, b_g3_11⟩, ⟨-, b_g4_11⟩, ⟨-, b_g5_11⟩, -⟩ := hBs
   have s6_11 := (rest11 6 (not_of (by kernel_rfl))).trans s6_10
   have s7_11 := (rest11 7 (not_of (by kernel_rfl))).trans s7_10
   have s8_11 := (rest11 8 (not_of (by kernel_rfl))).trans s8_10
   have s9_11 := (rest11 9 (not_of (by kernel_rfl))).trans s9_10
   clear R11 rest11 hS hfl hPs hAs
   clear s5_10 s6_10 s7_10 s8_10 s9_10 s25_10 s67_10 b_g1_10 b_g2_10 b_g3_10 b_g4_10 b_g5_10 d10 z10
   refine wp_seq ?_
   refine wp_regx (SX W w11.heap.size [⟨g1, 60, (cR a b c d), none, #[]⟩, ⟨g2, 60, (cR p q r t), none, #[]⟩, ⟨g3, 60, (cR 0 0 0 0), some 6, (cR ((Rg.nar ⟨Pr.atMost ⟨a, b⟩ ⟨p, q⟩, ⟨c, d⟩⟩).u.lo) ((Rg.nar ⟨Pr.atMost ⟨a, b⟩ ⟨p, q⟩, ⟨c, d⟩⟩).u.hi) ((Rg.nar ⟨Pr.atMost ⟨a, b⟩ ⟨p, q⟩, ⟨c, d⟩⟩).s.lo) ((Rg.nar ⟨Pr.atMost ⟨a, b⟩ ⟨p, q⟩, ⟨c, d⟩⟩).s.hi))⟩, ⟨g4, 95, (cU ((Pr.atMost ⟨a, b⟩ ⟨p, q⟩).lo) ((Pr.atMost ⟨a, b⟩ ⟨p, q⟩).hi)), none, #[]⟩, ⟨g5, 99, (cS c d), none, #[]⟩] []) (TabX [fun vx => vx = .agg #[.int .u64 ((Pr.atMost ⟨a, b⟩ ⟨p, q⟩).lo), .int .u64 ((Pr.atMost ⟨a, b⟩ ⟨p, q⟩).hi)], fun vx => vx = .agg #[.int .i64 c, .int .i64 d], fun vx => vx = .agg #[.int .u64 ((Pr.atMost ⟨a, b⟩ ⟨p, q⟩).lo), .int .u64 ((Pr.atMost ⟨a, b⟩ ⟨p, q⟩).hi), .int .i64 c, .int .i64 d], fun vx => vx = .tuple #[.agg #[.int .u64 ((Rg.nar ⟨Pr.atMost ⟨a, b⟩ ⟨p, q⟩, ⟨c, d⟩⟩).u.lo), .int .u64 ((Rg.nar ⟨Pr.atMost ⟨a, b⟩ ⟨p, q⟩, ⟨c, d⟩⟩).u.hi), .int .i64 ((Rg.nar ⟨Pr.atMost ⟨a, b⟩ ⟨p, q⟩, ⟨c, d⟩⟩).s.lo), .int .i64 ((Rg.nar ⟨Pr.atMost ⟨a, b⟩ ⟨p, q⟩, ⟨c, d⟩⟩).s.hi)], .bool (Rg.narB ⟨Pr.atMost ⟨a, b⟩ ⟨p, q⟩, ⟨c, d⟩⟩)], fun vx => vx = .agg #[.int .u64 ((Rg.nar ⟨Pr.atMost ⟨a, b⟩ ⟨p, q⟩, ⟨c, d⟩⟩).u.lo), .int .u64 ((Rg.nar ⟨Pr.atMost ⟨a, b⟩ ⟨p, q⟩, ⟨c, d⟩⟩).u.hi), .int .i64 ((Rg.nar ⟨Pr.atMost ⟨a, b⟩ ⟨p, q⟩, ⟨c, d⟩⟩).s.lo), .int .i64 ((Rg.nar ⟨Pr.atMost ⟨a, b⟩ ⟨p, q⟩, ⟨c, d⟩⟩).s.hi)], fun vx => vx = .bool (Rg.narB ⟨Pr.atMost ⟨a, b⟩ ⟨p, q⟩, ⟨c, d⟩⟩), fun _ => True, fun vx => vx = .bool (Rg.narB ⟨Pr.atMost ⟨a, b⟩ ⟨p, q⟩, ⟨c, d⟩⟩)]) (by kernel_rfl) (back_of (by kernel_rfl)) (dst_of (by kernel_rfl)) (in_ofz (by kernel_rfl) z11) (fun fl w1 hfl hw => SX.start' hw B11 hfl rfl ⟨b_g1_11, b_g2_11, b_g3_11, b_g4_11, b_g5_11, trivial⟩) ?h35 ?_
   case h35 =>
     intro ix ox ax wx fl ho hS hfi clo hsz hrest hdone hund
     have t6 := (hrest 6 (not_of (by kernel_rfl))).trans s6_11
     have t8 := (hrest 8 (not_of (by kernel_rfl))).trans s8_11
     have t9 := (hrest 9 (not_of (by kernel_rfl))).trans s9_11
     have hs : ax.tmps.size = 105 := hsz.trans z11
     have hi : ix < 8 := (Array.getElem?_eq_some_iff.1 ho).1
     clear hrest hsz hund
     obtain rfl | rfl | rfl | rfl | rfl | rfl | rfl | rfl : ix = 0 ∨ ix = 1 ∨ ix = 2 ∨ ix = 3 ∨ ix = 4 ∨ ix = 5 ∨ ix = 6 ∨ ix = 7 := by omega
     all_goals obtain rfl := Option.some.inj (show some _ = some ox from ho)
     ·
      have hr := hS.rowNi 3 rfl
      exact wpOp_val (v := .agg #[.int .u64 ((Pr.atMost ⟨a, b⟩ ⟨p, q⟩).lo), .int .u64 ((Pr.atMost ⟨a, b⟩ ⟨p, q⟩).hi)]) (w' := wx) rfl rfl (exec_loadR 95 _ rfl g4 0 (show ax.eval (.tmp 8) = .pointer (some ⟨g4, 0, none⟩) from t8) hr [.int .u64 ((Pr.atMost ⟨a, b⟩ ⟨p, q⟩).lo), .int .u64 ((Pr.atMost ⟨a, b⟩ ⟨p, q⟩).hi)] rfl _ Try.underlying95 rfl (by kernel_rfl)) ⟨_, rfl, tab_put rfl hs rfl rfl, hS.same 0 rfl⟩
     ·
      have hr := hS.rowNi 4 rfl
      exact wpOp_val (v := .agg #[.int .i64 c, .int .i64 d]) (w' := wx) rfl rfl (exec_loadR 99 _ rfl g5 0 (show ax.eval (.tmp 9) = .pointer (some ⟨g5, 0, none⟩) from t9) hr [.int .i64 c, .int .i64 d] rfl _ Try.underlying99 rfl (by kernel_rfl)) ⟨_, rfl, tab_put rfl hs rfl rfl, hS.same 1 rfl⟩
     ·
      have s99 : ax.tmps.getD 99 undef = .agg #[.int .u64 ((Pr.atMost ⟨a, b⟩ ⟨p, q⟩).lo), .int .u64 ((Pr.atMost ⟨a, b⟩ ⟨p, q⟩).hi)] := (hdone 0 _ rfl rfl).2 _ rfl
      have s100 : ax.tmps.getD 100 undef = .agg #[.int .i64 c, .int .i64 d] := (hdone 1 _ rfl rfl).2 _ rfl
      refine wpOp_call (args := #[.agg #[.int .u64 ((Pr.atMost ⟨a, b⟩ ⟨p, q⟩).lo), .int .u64 ((Pr.atMost ⟨a, b⟩ ⟨p, q⟩).hi)], .agg #[.int .i64 c, .int .i64 d]]) rfl rfl (exec_call rfl rfl rfl (args2 (show ax.eval (.tmp 99) = .agg #[.int .u64 ((Pr.atMost ⟨a, b⟩ ⟨p, q⟩).lo), .int .u64 ((Pr.atMost ⟨a, b⟩ ⟨p, q⟩).hi)] from s99) (show ax.eval (.tmp 100) = .agg #[.int .i64 c, .int .i64 d] from s100)) Try.func60 (by decide +kernel) rfl) ?_
      · refine (both_n ((Pr.atMost ⟨a, b⟩ ⟨p, q⟩).lo) ((Pr.atMost ⟨a, b⟩ ⟨p, q⟩).hi) c d wx).mono ?_
        rintro e w' ⟨rfl, b9⟩
        exact ⟨_, rfl, _, rfl, tab_put rfl hs rfl rfl, hS.quiet 2 rfl b9⟩
     ·
      have s101 : ax.tmps.getD 101 undef = .agg #[.int .u64 ((Pr.atMost ⟨a, b⟩ ⟨p, q⟩).lo), .int .u64 ((Pr.atMost ⟨a, b⟩ ⟨p, q⟩).hi), .int .i64 c, .int .i64 d] := (hdone 0 _ rfl rfl).2 _ rfl
      refine wpOp_call (args := #[.agg #[.int .u64 ((Pr.atMost ⟨a, b⟩ ⟨p, q⟩).lo), .int .u64 ((Pr.atMost ⟨a, b⟩ ⟨p, q⟩).hi), .int .i64 c, .int .i64 d]]) rfl rfl (exec_call rfl rfl rfl (args1 (show ax.eval (.tmp 101) = .agg #[.int .u64 ((Pr.atMost ⟨a, b⟩ ⟨p, q⟩).lo), .int .u64 ((Pr.atMost ⟨a, b⟩ ⟨p, q⟩).hi), .int .i64 c, .int .i64 d] from s101)) Try.func28 (by decide +kernel) rfl) ?_
      · refine (narrow_n ((Pr.atMost ⟨a, b⟩ ⟨p, q⟩).lo) ((Pr.atMost ⟨a, b⟩ ⟨p, q⟩).hi) c d wx (by have hh := (giv_ok cc (a := ⟨⟨a, b⟩, ⟨c, d⟩⟩) (b := ⟨⟨p, q⟩, ⟨r, t⟩⟩) HA.out HB.out Ffk1.out); unfold givC at hh; simp only [if_neg (nb Ffk3.out), if_neg (nb Ffk4.out), if_neg (nb Ffk6.out), if_neg (nb Ffk7.out), if_neg (nb Ffk8.out), if_pos (yb Ffk9.out)] at hh; exact hh)).mono ?_
        rintro e w' ⟨rfl, b9⟩
        exact ⟨_, rfl, _, rfl, tab_put rfl hs rfl rfl, hS.quiet 3 rfl b9⟩
     ·
      have s102 : ax.tmps.getD 102 undef = .tuple #[.agg #[.int .u64 ((Rg.nar ⟨Pr.atMost ⟨a, b⟩ ⟨p, q⟩, ⟨c, d⟩⟩).u.lo), .int .u64 ((Rg.nar ⟨Pr.atMost ⟨a, b⟩ ⟨p, q⟩, ⟨c, d⟩⟩).u.hi), .int .i64 ((Rg.nar ⟨Pr.atMost ⟨a, b⟩ ⟨p, q⟩, ⟨c, d⟩⟩).s.lo), .int .i64 ((Rg.nar ⟨Pr.atMost ⟨a, b⟩ ⟨p, q⟩, ⟨c, d⟩⟩).s.hi)], .bool (Rg.narB ⟨Pr.atMost ⟨a, b⟩ ⟨p, q⟩, ⟨c, d⟩⟩)] := (hdone 0 _ rfl rfl).2 _ rfl
      exact wpOp_val (v := .agg #[.int .u64 ((Rg.nar ⟨Pr.atMost ⟨a, b⟩ ⟨p, q⟩, ⟨c, d⟩⟩).u.lo), .int .u64 ((Rg.nar ⟨Pr.atMost ⟨a, b⟩ ⟨p, q⟩, ⟨c, d⟩⟩).u.hi), .int .i64 ((Rg.nar ⟨Pr.atMost ⟨a, b⟩ ⟨p, q⟩, ⟨c, d⟩⟩).s.lo), .int .i64 ((Rg.nar ⟨Pr.atMost ⟨a, b⟩ ⟨p, q⟩, ⟨c, d⟩⟩).s.hi)]) (w' := wx) rfl rfl (by simp [execOp, Act.eval, s102, go_sem]) ⟨_, rfl, tab_put rfl hs rfl rfl, hS.same 4 rfl⟩
     ·
      have s102 : ax.tmps.getD 102 undef = .tuple #[.agg #[.int .u64 ((Rg.nar ⟨Pr.atMost ⟨a, b⟩ ⟨p, q⟩, ⟨c, d⟩⟩).u.lo), .int .u64 ((Rg.nar ⟨Pr.atMost ⟨a, b⟩ ⟨p, q⟩, ⟨c, d⟩⟩).u.hi), .int .i64 ((Rg.nar ⟨Pr.atMost ⟨a, b⟩ ⟨p, q⟩, ⟨c, d⟩⟩).s.lo), .int .i64 ((Rg.nar ⟨Pr.atMost ⟨a, b⟩ ⟨p, q⟩, ⟨c, d⟩⟩).s.hi)], .bool (Rg.narB ⟨Pr.atMost ⟨a, b⟩ ⟨p, q⟩, ⟨c, d⟩⟩)] := (hdone 0 _ rfl rfl).2 _ rfl
      exact wpOp_val (v := .bool (Rg.narB ⟨Pr.atMost ⟨a, b⟩ ⟨p, q⟩, ⟨c, d⟩⟩)) (w' := wx) rfl rfl (by simp [execOp, Act.eval, s102, go_sem]) ⟨_, rfl, tab_put rfl hs rfl rfl, hS.same 5 rfl⟩
     ·
      have s103 : ax.tmps.getD 103 undef = .agg #[.int .u64 ((Rg.nar ⟨Pr.atMost ⟨a, b⟩ ⟨p, q⟩, ⟨c, d⟩⟩).u.lo), .int .u64 ((Rg.nar ⟨Pr.atMost ⟨a, b⟩ ⟨p, q⟩, ⟨c, d⟩⟩).u.hi), .int .i64 ((Rg.nar ⟨Pr.atMost ⟨a, b⟩ ⟨p, q⟩, ⟨c, d⟩⟩).s.lo), .int .i64 ((Rg.nar ⟨Pr.atMost ⟨a, b⟩ ⟨p, q⟩, ⟨c, d⟩⟩).s.hi)] := (hdone 0 _ rfl rfl).2 _ rfl
      have hr := hS.rowFi 2 rfl hfi
      exact wpOp_skp (w' := wx.setRow g3 #[.int .u64 ((Rg.nar ⟨Pr.atMost ⟨a, b⟩ ⟨p, q⟩, ⟨c, d⟩⟩).u.lo), .int .u64 ((Rg.nar ⟨Pr.atMost ⟨a, b⟩ ⟨p, q⟩, ⟨c, d⟩⟩).u.hi), .int .i64 ((Rg.nar ⟨Pr.atMost ⟨a, b⟩ ⟨p, q⟩, ⟨c, d⟩⟩).s.lo), .int .i64 ((Rg.nar ⟨Pr.atMost ⟨a, b⟩ ⟨p, q⟩, ⟨c, d⟩⟩).s.hi)]) rfl rfl (exec_storeR 60 _ _ rfl g3 #[.int .u64 ((Rg.nar ⟨Pr.atMost ⟨a, b⟩ ⟨p, q⟩, ⟨c, d⟩⟩).u.lo), .int .u64 ((Rg.nar ⟨Pr.atMost ⟨a, b⟩ ⟨p, q⟩, ⟨c, d⟩⟩).u.hi), .int .i64 ((Rg.nar ⟨Pr.atMost ⟨a, b⟩ ⟨p, q⟩, ⟨c, d⟩⟩).s.lo), .int .i64 ((Rg.nar ⟨Pr.atMost ⟨a, b⟩ ⟨p, q⟩, ⟨c, d⟩⟩).s.hi)] (show ax.eval (.tmp 6) = .pointer (some ⟨g3, 0, none⟩) from t6) (show ax.eval (.tmp 103) = .agg #[.int .u64 ((Rg.nar ⟨Pr.atMost ⟨a, b⟩ ⟨p, q⟩, ⟨c, d⟩⟩).u.lo), .int .u64 ((Rg.nar ⟨Pr.atMost ⟨a, b⟩ ⟨p, q⟩, ⟨c, d⟩⟩).u.hi), .int .i64 ((Rg.nar ⟨Pr.atMost ⟨a, b⟩ ⟨p, q⟩, ⟨c, d⟩⟩).s.lo), .int .i64 ((Rg.nar ⟨Pr.atMost ⟨a, b⟩ ⟨p, q⟩, ⟨c, d⟩⟩).s.hi)] from s103) hr (by kernel_rfl) rfl (by simp [Value.oneCell'])) ⟨undef, rfl, trivial, hS.storeBi 6 2 rfl q_g3 rfl ⟨(show g1 ≠ g3 by omega), (show g2 ≠ g3 by omega), (show g4 ≠ g3 by omega), (show g5 ≠ g3 by omega), trivial⟩ (stored_setRow wx g3 _ _ _ hr)⟩
     ·
      have s104 : ax.tmps.getD 104 undef = .bool (Rg.narB ⟨Pr.atMost ⟨a, b⟩ ⟨p, q⟩, ⟨c, d⟩⟩) := (hdone 0 _ rfl rfl).2 _ rfl
      exact wpOp_val (v := .bool (Rg.narB ⟨Pr.atMost ⟨a, b⟩ ⟨p, q⟩, ⟨c, d⟩⟩)) (w' := wx) rfl rfl (by simp [execOp, Act.eval, s104]) ⟨_, rfl, tab_put rfl hs rfl rfl, hS.same 7 rfl⟩
   intro a12 w12 fl d12 z12 rest12 R12 hfl hS
   obtain ⟨B12, n12, hBs, hAs, hPs⟩ := hS.finish hfl rfl
   replace d12 := d12.trans d11
   replace z12 := z12.trans z11
   obtain ⟨⟨-, b_g1_12⟩, ⟨-, b_g2_12⟩, ⟨-, b_g3_12⟩, ⟨-, b_g4_12⟩, ⟨-, b_g5_12⟩, -⟩ := hBs
   have s6_12 := (rest12 6 (not_of (by kernel_rfl))).trans s6_11
   have s7_12 : a12.tmps.getD 7 undef = .bool (Rg.narB ⟨Pr.atMost ⟨a, b⟩ ⟨p, q⟩, ⟨c, d⟩⟩) := R12 7 _ rfl
   clear R12 rest12 hS hfl hPs hAs
   clear s6_11 s7_11 s8_11 s9_11 b_g1_11 b_g2_11 b_g3_11 b_g4_11 b_g5_11 d11 z11
   refine wp_ret ?_
   try simp only [Exit.inBlock, Exit.then]
   refine bodyPost_ret (res_ct (fn := Try.f24) rfl s6_12 (load_row 60 b_g3_12 Try.underlying60 rfl (by kernel_rfl)) s7_12) d12 ?_
   have no0 := nb Ffk3.out
   have no1 := nb Ffk4.out
   have no2 := nb Ffk6.out
   have no3 := nb Ffk7.out
   have no4 := nb Ffk8.out
   have ho : cc = 5 := yb Ffk9.out
   have hk : ccOk cc = true := by rw [ho]; rfl
   have HD : givC cc ⟨⟨a, b⟩, ⟨c, d⟩⟩ ⟨⟨p, q⟩, ⟨r, t⟩⟩ = ⟨Pr.atMost ⟨a, b⟩ ⟨p, q⟩, ⟨c, d⟩⟩ := by
     unfold givC
     simp only [if_neg no0, if_neg no1, if_neg no2, if_neg no3, if_neg no4, if_pos ho]
     try rfl
   have HE : Value.tuple #[.agg #[.int .u64 ((Rg.nar ⟨Pr.atMost ⟨a, b⟩ ⟨p, q⟩, ⟨c, d⟩⟩).u.lo), .int .u64 ((Rg.nar ⟨Pr.atMost ⟨a, b⟩ ⟨p, q⟩, ⟨c, d⟩⟩).u.hi), .int .i64 ((Rg.nar ⟨Pr.atMost ⟨a, b⟩ ⟨p, q⟩, ⟨c, d⟩⟩).s.lo), .int .i64 ((Rg.nar ⟨Pr.atMost ⟨a, b⟩ ⟨p, q⟩, ⟨c, d⟩⟩).s.hi)], .bool (Rg.narB ⟨Pr.atMost ⟨a, b⟩ ⟨p, q⟩, ⟨c, d⟩⟩)] = .tuple #[Rg.val (Rg.giv cc ⟨⟨a, b⟩, ⟨c, d⟩⟩ ⟨⟨p, q⟩, ⟨r, t⟩⟩), .bool (Rg.givB cc ⟨⟨a, b⟩, ⟨c, d⟩⟩ ⟨⟨p, q⟩, ⟨r, t⟩⟩)] := by unfold Rg.giv Rg.givB; rw [Ffk1.out, Ffk2.out, hk, if_pos (by rfl), HD]; rfl
   exact ⟨retV HE, B12⟩
  have Ffk9 := Lib.hid fk9; clear fk9
  refine wp_regx (SX W w9.heap.size [⟨g1, 60, (cR a b c d), none, #[]⟩, ⟨g2, 60, (cR p q r t), none, #[]⟩, ⟨g3, 60, (cR 0 0 0 0), none, #[]⟩, ⟨g4, 95, (cU a b), none, #[]⟩, ⟨g5, 99, (cS c d), none, #[]⟩] []) (TabX [fun vx => vx = .bool false, fun vx => vx = .bool false]) (by kernel_rfl) (back_of (by kernel_rfl)) (dst_of (by kernel_rfl)) (in_ofz (by kernel_rfl) z9) (fun fl w1 hfl hw => SX.start' hw B9 hfl rfl ⟨b_g1_9, b_g2_9, b_g3_9, b_g4_9, b_g5_9, trivial⟩) ?h36 ?_
  case h36 =>
    intro ix ox ax wx fl ho hS hfi clo hsz hrest hdone hund
    have t25 := (hrest 25 (not_of (by kernel_rfl))).trans s25_9
    have hs : ax.tmps.size = 105 := hsz.trans z9
    have hi : ix < 2 := (Array.getElem?_eq_some_iff.1 ho).1
    clear hrest hsz hund
    obtain rfl | rfl : ix = 0 ∨ ix = 1 := by omega
    all_goals obtain rfl := Option.some.inj (show some _ = some ox from ho)
    ·
     exact wpOp_val (v := .bool (cc == 5)) (w' := wx) rfl rfl (by (simp [execOp, Act.eval, t25, go_sem]; try (simp only [IntKind.wrap_i64, wrap64]))) ⟨_, rfl, tab_put rfl hs rfl (congrArg Value.bool Ffk9.out), hS.same 0 rfl⟩
    ·
     have s68 : ax.tmps.getD 68 undef = .bool false := (hdone 0 _ rfl rfl).2 _ rfl
     exact wpOp_val (v := .bool false) (w' := wx) rfl rfl (by simp [execOp, Act.eval, s68]) ⟨_, rfl, tab_put rfl hs rfl rfl, hS.same 1 rfl⟩
  intro a10 w10 fl d10 z10 rest10 R10 hfl hS
  obtain ⟨B10, n10, hBs, hAs, hPs⟩ := hS.finish hfl rfl
  replace d10 := d10.trans d9
  replace z10 := z10.trans z9
  obtain ⟨⟨-, b_g1_10⟩, ⟨-, b_g2_10⟩, ⟨-, b_g3_10⟩, ⟨-, b_g4_10⟩, ⟨-, b_g5_10⟩, -⟩ := hBs
  have s5_10 := (rest10 5 (not_of (by kernel_rfl))).trans s5_9
  have s6_10 := (rest10 6 (not_of (by kernel_rfl))).trans s6_9
  have s7_10 := (rest10 7 (not_of (by kernel_rfl))).trans s7_9
  have s8_10 := (rest10 8 (not_of (by kernel_rfl))).trans s8_9
  have s9_10 := (rest10 9 (not_of (by kernel_rfl))).trans s9_9
  have s25_10 := (rest10 25 (not_of (by kernel_rfl))).trans s25_9
  have s67_10 : a10.tmps.getD 67 undef = .bool false := R10 1 _ rfl
  clear R10 rest10 hS hfl hPs hAs
  clear s5_9 s6_9 s7_9 s8_9 s9_9 s25_9 s61_9 b_g1_9 b_g2_9 b_g3_9 b_g4_9 b_g5_9 d9 z9
  refine wp_cond_false (show a10.tmps.getD 67 undef = .bool false from s67_10) ?_
  refine wp_seq ?_
  cases fk10 : cc == 6
  case true =>
   have Ffk10 := Lib.hid fk10; clear fk10
   refine wp_regx (SX W w10.heap.size [⟨g1, 60, (cR a b c d), none, #[]⟩, ⟨g2, 60, (cR p q r t), none, #[]⟩, ⟨g3, 60, (cR 0 0 0 0), none, #[]⟩, ⟨g4, 95, (cU a b), none, #[]⟩, ⟨g5, 99, (cS c d), none, #[]⟩] []) (TabX [fun vx => vx = .bool true, fun vx => vx = .bool true]) (by kernel_rfl) (back_of (by kernel_rfl)) (dst_of (by kernel_rfl)) (in_ofz (by kernel_rfl) z10) (fun fl w1 hfl hw => SX.start' hw B10 hfl rfl ⟨b_g1_10, b_g2_10, b_g3_10, b_g4_10, b_g5_10, trivial⟩) ?h37 ?_
   case h37 =>
     intro ix ox ax wx fl ho hS hfi clo hsz hrest hdone hund
     have t25 := (hrest 25 (not_of (by kernel_rfl))).trans s25_10
     have hs : ax.tmps.size = 105 := hsz.trans z10
     have hi : ix < 2 := (Array.getElem?_eq_some_iff.1 ho).1
     clear hrest hsz hund
     obtain rfl | rfl : ix = 0 ∨ ix = 1 := by omega
     all_goals obtain rfl := Option.some.inj (show some _ = some ox from ho)
     ·
      exact wpOp_val (v := .bool (cc == 6)) (w' := wx) rfl rfl (by (simp [execOp, Act.eval, t25, go_sem]; try (simp only [IntKind.wrap_i64, wrap64]))) ⟨_, rfl, tab_put rfl hs rfl (congrArg Value.bool Ffk10.out), hS.same 0 rfl⟩
     ·
      have s74 : ax.tmps.getD 74 undef = .bool true := (hdone 0 _ rfl rfl).2 _ rfl
      exact wpOp_val (v := .bool true) (w' := wx) rfl rfl (by simp [execOp, Act.eval, s74]) ⟨_, rfl, tab_put rfl hs rfl rfl, hS.same 1 rfl⟩
   intro a11 w11 fl d11 z11 rest11 R11 hfl hS
   obtain ⟨B11, n11, hBs, hAs, hPs⟩ := hS.finish hfl rfl
   replace d11 := d11.trans d10
   replace z11 := z11.trans z10
   obtain ⟨⟨-, b_g1_11⟩, ⟨-, b_g2_11⟩, ⟨-, b_g3_11⟩, ⟨-, b_g4_11⟩, ⟨-, b_g5_11⟩, -⟩ := hBs
   have s5_11 := (rest11 5 (not_of (by kernel_rfl))).trans s5_10
   have s6_11 := (rest11 6 (not_of (by kernel_rfl))).trans s6_10
   have s7_11 := (rest11 7 (not_of (by kernel_rfl))).trans s7_10
   have s8_11 := (rest11 8 (not_of (by kernel_rfl))).trans s8_10
   have s9_11 := (rest11 9 (not_of (by kernel_rfl))).trans s9_10
   have s25_11 := (rest11 25 (not_of (by kernel_rfl))).trans s25_10
   have s73_11 : a11.tmps.getD 73 undef = .bool true := R11 1 _ rfl
   clear R11 rest11 hS hfl hPs hAs
   clear s5_10 s6_10 s7_10 s8_10 s9_10 s25_10 s67_10 b_g1_10 b_g2_10 b_g3_10 b_g4_10 b_g5_10 d10 z10
   refine wp_cond_true (show a11.tmps.getD 73 undef = .bool true from s73_11) ?_
   refine wp_regx (SX W w11.heap.size [⟨g1, 60, (cR a b c d), none, #[]⟩, ⟨g2, 60, (cR p q r t), none, #[]⟩, ⟨g3, 60, (cR 0 0 0 0), none, #[]⟩, ⟨g4, 95, (cU a b), none, #[]⟩, ⟨g5, 99, (cS c d), some 4, (cS ((Pr.above ⟨c, d⟩ ⟨r, t⟩).lo) ((Pr.above ⟨c, d⟩ ⟨r, t⟩).hi))⟩] []) (TabX [fun vx => vx = .agg #[.int .i64 c, .int .i64 d], fun vx => vx = .agg #[.int .u64 p, .int .u64 q, .int .i64 r, .int .i64 t], fun vx => vx = .agg #[.int .i64 r, .int .i64 t], fun vx => vx = .agg #[.int .i64 ((Pr.above ⟨c, d⟩ ⟨r, t⟩).lo), .int .i64 ((Pr.above ⟨c, d⟩ ⟨r, t⟩).hi)], fun _ => True]) (by kernel_rfl) (back_of (by kernel_rfl)) (dst_of (by kernel_rfl)) (in_ofz (by kernel_rfl) z11) (fun fl w1 hfl hw => SX.start' hw B11 hfl rfl ⟨b_g1_11, b_g2_11, b_g3_11, b_g4_11, b_g5_11, trivial⟩) ?h38 ?_
   case h38 =>
     intro ix ox ax wx fl ho hS hfi clo hsz hrest hdone hund
     have t5 := (hrest 5 (not_of (by kernel_rfl))).trans s5_11
     have t9 := (hrest 9 (not_of (by kernel_rfl))).trans s9_11
     have hs : ax.tmps.size = 105 := hsz.trans z11
     have hi : ix < 5 := (Array.getElem?_eq_some_iff.1 ho).1
     clear hrest hsz hund
     obtain rfl | rfl | rfl | rfl | rfl : ix = 0 ∨ ix = 1 ∨ ix = 2 ∨ ix = 3 ∨ ix = 4 := by omega
     all_goals obtain rfl := Option.some.inj (show some _ = some ox from ho)
     ·
      have hr := hS.rowFi 4 rfl (not_yet clo hfi (by kernel_rfl))
      exact wpOp_val (v := .agg #[.int .i64 c, .int .i64 d]) (w' := wx) rfl rfl (exec_loadR 99 _ rfl g5 0 (show ax.eval (.tmp 9) = .pointer (some ⟨g5, 0, none⟩) from t9) hr [.int .i64 c, .int .i64 d] rfl _ Try.underlying99 rfl (by kernel_rfl)) ⟨_, rfl, tab_put rfl hs rfl rfl, hS.same 0 rfl⟩
     ·
      have hr := hS.rowNi 1 rfl
      exact wpOp_val (v := .agg #[.int .u64 p, .int .u64 q, .int .i64 r, .int .i64 t]) (w' := wx) rfl rfl (exec_loadR 60 _ rfl g2 0 (show ax.eval (.tmp 5) = .pointer (some ⟨g2, 0, none⟩) from t5) hr [.int .u64 p, .int .u64 q, .int .i64 r, .int .i64 t] rfl _ Try.underlying60 rfl (by kernel_rfl)) ⟨_, rfl, tab_put rfl hs rfl rfl, hS.same 1 rfl⟩
     ·
      have s76 : ax.tmps.getD 76 undef = .agg #[.int .u64 p, .int .u64 q, .int .i64 r, .int .i64 t] := (hdone 0 _ rfl rfl).2 _ rfl
      refine wpOp_call (args := #[.agg #[.int .u64 p, .int .u64 q, .int .i64 r, .int .i64 t]]) rfl rfl (exec_call rfl rfl rfl (args1 (show ax.eval (.tmp 76) = .agg #[.int .u64 p, .int .u64 q, .int .i64 r, .int .i64 t] from s76)) Try.func63 (by decide +kernel) rfl) ?_
      · refine (signed_n p q r t wx).mono ?_
        rintro e w' ⟨rfl, b9⟩
        exact ⟨_, rfl, _, rfl, tab_put rfl hs rfl rfl, hS.quiet 2 rfl b9⟩
     ·
      have s75 : ax.tmps.getD 75 undef = .agg #[.int .i64 c, .int .i64 d] := (hdone 0 _ rfl rfl).2 _ rfl
      have s77 : ax.tmps.getD 77 undef = .agg #[.int .i64 r, .int .i64 t] := (hdone 1 _ rfl rfl).2 _ rfl
      refine wpOp_call (args := #[.agg #[.int .i64 c, .int .i64 d], .agg #[.int .i64 r, .int .i64 t]]) rfl rfl (exec_call rfl rfl rfl (args2 (show ax.eval (.tmp 75) = .agg #[.int .i64 c, .int .i64 d] from s75) (show ax.eval (.tmp 77) = .agg #[.int .i64 r, .int .i64 t] from s77)) Try.func71 (by decide +kernel) rfl) ?_
      · refine (aboveS_n c d r t wx HA.out.2 HB.out.2).mono ?_
        rintro e w' ⟨rfl, b9⟩
        exact ⟨_, rfl, _, rfl, tab_put rfl hs rfl rfl, hS.quiet 3 rfl b9⟩
     ·
      have s78 : ax.tmps.getD 78 undef = .agg #[.int .i64 ((Pr.above ⟨c, d⟩ ⟨r, t⟩).lo), .int .i64 ((Pr.above ⟨c, d⟩ ⟨r, t⟩).hi)] := (hdone 0 _ rfl rfl).2 _ rfl
      have hr := hS.rowFi 4 rfl hfi
      exact wpOp_skp (w' := wx.setRow g5 #[.int .i64 ((Pr.above ⟨c, d⟩ ⟨r, t⟩).lo), .int .i64 ((Pr.above ⟨c, d⟩ ⟨r, t⟩).hi)]) rfl rfl (exec_storeR 99 _ _ rfl g5 #[.int .i64 ((Pr.above ⟨c, d⟩ ⟨r, t⟩).lo), .int .i64 ((Pr.above ⟨c, d⟩ ⟨r, t⟩).hi)] (show ax.eval (.tmp 9) = .pointer (some ⟨g5, 0, none⟩) from t9) (show ax.eval (.tmp 78) = .agg #[.int .i64 ((Pr.above ⟨c, d⟩ ⟨r, t⟩).lo), .int .i64 ((Pr.above ⟨c, d⟩ ⟨r, t⟩).hi)] from s78) hr (by kernel_rfl) rfl (by simp [Value.oneCell'])) ⟨undef, rfl, trivial, hS.storeBi 4 4 rfl q_g5 rfl ⟨(show g1 ≠ g5 by omega), (show g2 ≠ g5 by omega), (show g3 ≠ g5 by omega), (show g4 ≠ g5 by omega), trivial⟩ (stored_setRow wx g5 _ _ _ hr)⟩
   intro a12 w12 fl d12 z12 rest12 R12 hfl hS
   obtain ⟨B12, n12, hBs, hAs, hPs⟩ := hS.finish hfl rfl
   replace d12 := d12.trans d11
   replace z12 := z12.trans z11
   obtain ⟨⟨-, b_g1_12⟩, ⟨-, b_g2_12⟩, ⟨-, b_g3_12⟩, ⟨-, b_g4_12⟩, ⟨-, b_g5_12⟩, -⟩ := hBs
   have s6_12 := (rest12 6 (not_of (by kernel_rfl))).trans s6_11
   have s7_12 := (rest12 7 (not_of (by kernel_rfl))).trans s7_11
   have s8_12 := (rest12 8 (not_of (by kernel_rfl))).trans s8_11
   have s9_12 := (rest12 9 (not_of (by kernel_rfl))).trans s9_11
   clear R12 rest12 hS hfl hPs hAs
   clear s5_11 s6_11 s7_11 s8_11 s9_11 s25_11 s73_11 b_g1_11 b_g2_11 b_g3_11 b_g4_11 b_g5_11 d11 z11
   refine wp_seq ?_
   refine wp_regx (SX W w12.heap.size [⟨g1, 60, (cR a b c d), none, #[]⟩, ⟨g2, 60, (cR p q r t), none, #[]⟩, ⟨g3, 60, (cR 0 0 0 0), some 6, (cR ((Rg.nar ⟨⟨a, b⟩, Pr.above ⟨c, d⟩ ⟨r, t⟩⟩).u.lo) ((Rg.nar ⟨⟨a, b⟩, Pr.above ⟨c, d⟩ ⟨r, t⟩⟩).u.hi) ((Rg.nar ⟨⟨a, b⟩, Pr.above ⟨c, d⟩ ⟨r, t⟩⟩).s.lo) ((Rg.nar ⟨⟨a, b⟩, Pr.above ⟨c, d⟩ ⟨r, t⟩⟩).s.hi))⟩, ⟨g4, 95, (cU a b), none, #[]⟩, ⟨g5, 99, (cS ((Pr.above ⟨c, d⟩ ⟨r, t⟩).lo) ((Pr.above ⟨c, d⟩ ⟨r, t⟩).hi)), none, #[]⟩] []) (TabX [fun vx => vx = .agg #[.int .u64 a, .int .u64 b], fun vx => vx = .agg #[.int .i64 ((Pr.above ⟨c, d⟩ ⟨r, t⟩).lo), .int .i64 ((Pr.above ⟨c, d⟩ ⟨r, t⟩).hi)], fun vx => vx = .agg #[.int .u64 a, .int .u64 b, .int .i64 ((Pr.above ⟨c, d⟩ ⟨r, t⟩).lo), .int .i64 ((Pr.above ⟨c, d⟩ ⟨r, t⟩).hi)], fun vx => vx = .tuple #[.agg #[.int .u64 ((Rg.nar ⟨⟨a, b⟩, Pr.above ⟨c, d⟩ ⟨r, t⟩⟩).u.lo), .int .u64 ((Rg.nar ⟨⟨a, b⟩, Pr.above ⟨c, d⟩ ⟨r, t⟩⟩).u.hi), .int .i64 ((Rg.nar ⟨⟨a, b⟩, Pr.above ⟨c, d⟩ ⟨r, t⟩⟩).s.lo), .int .i64 ((Rg.nar ⟨⟨a, b⟩, Pr.above ⟨c, d⟩ ⟨r, t⟩⟩).s.hi)], .bool (Rg.narB ⟨⟨a, b⟩, Pr.above ⟨c, d⟩ ⟨r, t⟩⟩)], fun vx => vx = .agg #[.int .u64 ((Rg.nar ⟨⟨a, b⟩, Pr.above ⟨c, d⟩ ⟨r, t⟩⟩).u.lo), .int .u64 ((Rg.nar ⟨⟨a, b⟩, Pr.above ⟨c, d⟩ ⟨r, t⟩⟩).u.hi), .int .i64 ((Rg.nar ⟨⟨a, b⟩, Pr.above ⟨c, d⟩ ⟨r, t⟩⟩).s.lo), .int .i64 ((Rg.nar ⟨⟨a, b⟩, Pr.above ⟨c, d⟩ ⟨r, t⟩⟩).s.hi)], fun vx => vx = .bool (Rg.narB ⟨⟨a, b⟩, Pr.above ⟨c, d⟩ ⟨r, t⟩⟩), fun _ => True, fun vx => vx = .bool (Rg.narB ⟨⟨a, b⟩, Pr.above ⟨c, d⟩ ⟨r, t⟩⟩)]) (by kernel_rfl) (back_of (by kernel_rfl)) (dst_of (by kernel_rfl)) (in_ofz (by kernel_rfl) z12) (fun fl w1 hfl hw => SX.start' hw B12 hfl rfl ⟨b_g1_12, b_g2_12, b_g3_12, b_g4_12, b_g5_12, trivial⟩) ?h39 ?_
   case h39 =>
     intro ix ox ax wx fl ho hS hfi clo hsz hrest hdone hund
     have t6 := (hrest 6 (not_of (by kernel_rfl))).trans s6_12
     have t8 := (hrest 8 (not_of (by kernel_rfl))).trans s8_12
     have t9 := (hrest 9 (not_of (by kernel_rfl))).trans s9_12
     have hs : ax.tmps.size = 105 := hsz.trans z12
     have hi : ix < 8 := (Array.getElem?_eq_some_iff.1 ho).1
     clear hrest hsz hund
     obtain rfl | rfl | rfl | rfl | rfl | rfl | rfl | rfl : ix = 0 ∨ ix = 1 ∨ ix = 2 ∨ ix = 3 ∨ ix = 4 ∨ ix = 5 ∨ ix = 6 ∨ ix = 7 := by omega
     all_goals obtain rfl := Option.some.inj (show some _ = some ox from ho)
     ·
      have hr := hS.rowNi 3 rfl
      exact wpOp_val (v := .agg #[.int .u64 a, .int .u64 b]) (w' := wx) rfl rfl (exec_loadR 95 _ rfl g4 0 (show ax.eval (.tmp 8) = .pointer (some ⟨g4, 0, none⟩) from t8) hr [.int .u64 a, .int .u64 b] rfl _ Try.underlying95 rfl (by kernel_rfl)) ⟨_, rfl, tab_put rfl hs rfl rfl, hS.same 0 rfl⟩
     ·
      have hr := hS.rowNi 4 rfl
      exact wpOp_val (v := .agg #[.int .i64 ((Pr.above ⟨c, d⟩ ⟨r, t⟩).lo), .int .i64 ((Pr.above ⟨c, d⟩ ⟨r, t⟩).hi)]) (w' := wx) rfl rfl (exec_loadR 99 _ rfl g5 0 (show ax.eval (.tmp 9) = .pointer (some ⟨g5, 0, none⟩) from t9) hr [.int .i64 ((Pr.above ⟨c, d⟩ ⟨r, t⟩).lo), .int .i64 ((Pr.above ⟨c, d⟩ ⟨r, t⟩).hi)] rfl _ Try.underlying99 rfl (by kernel_rfl)) ⟨_, rfl, tab_put rfl hs rfl rfl, hS.same 1 rfl⟩
     ·
      have s99 : ax.tmps.getD 99 undef = .agg #[.int .u64 a, .int .u64 b] := (hdone 0 _ rfl rfl).2 _ rfl
      have s100 : ax.tmps.getD 100 undef = .agg #[.int .i64 ((Pr.above ⟨c, d⟩ ⟨r, t⟩).lo), .int .i64 ((Pr.above ⟨c, d⟩ ⟨r, t⟩).hi)] := (hdone 1 _ rfl rfl).2 _ rfl
      refine wpOp_call (args := #[.agg #[.int .u64 a, .int .u64 b], .agg #[.int .i64 ((Pr.above ⟨c, d⟩ ⟨r, t⟩).lo), .int .i64 ((Pr.above ⟨c, d⟩ ⟨r, t⟩).hi)]]) rfl rfl (exec_call rfl rfl rfl (args2 (show ax.eval (.tmp 99) = .agg #[.int .u64 a, .int .u64 b] from s99) (show ax.eval (.tmp 100) = .agg #[.int .i64 ((Pr.above ⟨c, d⟩ ⟨r, t⟩).lo), .int .i64 ((Pr.above ⟨c, d⟩ ⟨r, t⟩).hi)] from s100)) Try.func60 (by decide +kernel) rfl) ?_
      · refine (both_n a b ((Pr.above ⟨c, d⟩ ⟨r, t⟩).lo) ((Pr.above ⟨c, d⟩ ⟨r, t⟩).hi) wx).mono ?_
        rintro e w' ⟨rfl, b9⟩
        exact ⟨_, rfl, _, rfl, tab_put rfl hs rfl rfl, hS.quiet 2 rfl b9⟩
     ·
      have s101 : ax.tmps.getD 101 undef = .agg #[.int .u64 a, .int .u64 b, .int .i64 ((Pr.above ⟨c, d⟩ ⟨r, t⟩).lo), .int .i64 ((Pr.above ⟨c, d⟩ ⟨r, t⟩).hi)] := (hdone 0 _ rfl rfl).2 _ rfl
      refine wpOp_call (args := #[.agg #[.int .u64 a, .int .u64 b, .int .i64 ((Pr.above ⟨c, d⟩ ⟨r, t⟩).lo), .int .i64 ((Pr.above ⟨c, d⟩ ⟨r, t⟩).hi)]]) rfl rfl (exec_call rfl rfl rfl (args1 (show ax.eval (.tmp 101) = .agg #[.int .u64 a, .int .u64 b, .int .i64 ((Pr.above ⟨c, d⟩ ⟨r, t⟩).lo), .int .i64 ((Pr.above ⟨c, d⟩ ⟨r, t⟩).hi)] from s101)) Try.func28 (by decide +kernel) rfl) ?_
      · refine (narrow_n a b ((Pr.above ⟨c, d⟩ ⟨r, t⟩).lo) ((Pr.above ⟨c, d⟩ ⟨r, t⟩).hi) wx (by have hh := (giv_ok cc (a := ⟨⟨a, b⟩, ⟨c, d⟩⟩) (b := ⟨⟨p, q⟩, ⟨r, t⟩⟩) HA.out HB.out Ffk1.out); unfold givC at hh; simp only [if_neg (nb Ffk3.out), if_neg (nb Ffk4.out), if_neg (nb Ffk6.out), if_neg (nb Ffk7.out), if_neg (nb Ffk8.out), if_neg (nb Ffk9.out), if_pos (yb Ffk10.out)] at hh; exact hh)).mono ?_
        rintro e w' ⟨rfl, b9⟩
        exact ⟨_, rfl, _, rfl, tab_put rfl hs rfl rfl, hS.quiet 3 rfl b9⟩
     ·
      have s102 : ax.tmps.getD 102 undef = .tuple #[.agg #[.int .u64 ((Rg.nar ⟨⟨a, b⟩, Pr.above ⟨c, d⟩ ⟨r, t⟩⟩).u.lo), .int .u64 ((Rg.nar ⟨⟨a, b⟩, Pr.above ⟨c, d⟩ ⟨r, t⟩⟩).u.hi), .int .i64 ((Rg.nar ⟨⟨a, b⟩, Pr.above ⟨c, d⟩ ⟨r, t⟩⟩).s.lo), .int .i64 ((Rg.nar ⟨⟨a, b⟩, Pr.above ⟨c, d⟩ ⟨r, t⟩⟩).s.hi)], .bool (Rg.narB ⟨⟨a, b⟩, Pr.above ⟨c, d⟩ ⟨r, t⟩⟩)] := (hdone 0 _ rfl rfl).2 _ rfl
      exact wpOp_val (v := .agg #[.int .u64 ((Rg.nar ⟨⟨a, b⟩, Pr.above ⟨c, d⟩ ⟨r, t⟩⟩).u.lo), .int .u64 ((Rg.nar ⟨⟨a, b⟩, Pr.above ⟨c, d⟩ ⟨r, t⟩⟩).u.hi), .int .i64 ((Rg.nar ⟨⟨a, b⟩, Pr.above ⟨c, d⟩ ⟨r, t⟩⟩).s.lo), .int .i64 ((Rg.nar ⟨⟨a, b⟩, Pr.above ⟨c, d⟩ ⟨r, t⟩⟩).s.hi)]) (w' := wx) rfl rfl (by simp [execOp, Act.eval, s102, go_sem]) ⟨_, rfl, tab_put rfl hs rfl rfl, hS.same 4 rfl⟩
     ·
      have s102 : ax.tmps.getD 102 undef = .tuple #[.agg #[.int .u64 ((Rg.nar ⟨⟨a, b⟩, Pr.above ⟨c, d⟩ ⟨r, t⟩⟩).u.lo), .int .u64 ((Rg.nar ⟨⟨a, b⟩, Pr.above ⟨c, d⟩ ⟨r, t⟩⟩).u.hi), .int .i64 ((Rg.nar ⟨⟨a, b⟩, Pr.above ⟨c, d⟩ ⟨r, t⟩⟩).s.lo), .int .i64 ((Rg.nar ⟨⟨a, b⟩, Pr.above ⟨c, d⟩ ⟨r, t⟩⟩).s.hi)], .bool (Rg.narB ⟨⟨a, b⟩, Pr.above ⟨c, d⟩ ⟨r, t⟩⟩)] := (hdone 0 _ rfl rfl).2 _ rfl
      exact wpOp_val (v := .bool (Rg.narB ⟨⟨a, b⟩, Pr.above ⟨c, d⟩ ⟨r, t⟩⟩)) (w' := wx) rfl rfl (by simp [execOp, Act.eval, s102, go_sem]) ⟨_, rfl, tab_put rfl hs rfl rfl, hS.same 5 rfl⟩
     ·
      have s103 : ax.tmps.getD 103 undef = .agg #[.int .u64 ((Rg.nar ⟨⟨a, b⟩, Pr.above ⟨c, d⟩ ⟨r, t⟩⟩).u.lo), .int .u64 ((Rg.nar ⟨⟨a, b⟩, Pr.above ⟨c, d⟩ ⟨r, t⟩⟩).u.hi), .int .i64 ((Rg.nar ⟨⟨a, b⟩, Pr.above ⟨c, d⟩ ⟨r, t⟩⟩).s.lo), .int .i64 ((Rg.nar ⟨⟨a, b⟩, Pr.above ⟨c, d⟩ ⟨r, t⟩⟩).s.hi)] := (hdone 0 _ rfl rfl).2 _ rfl
      have hr := hS.rowFi 2 rfl hfi
      exact wpOp_skp (w' := wx.setRow g3 #[.int .u64 ((Rg.nar ⟨⟨a, b⟩, Pr.above ⟨c, d⟩ ⟨r, t⟩⟩).u.lo), .int .u64 ((Rg.nar ⟨⟨a, b⟩, Pr.above ⟨c, d⟩ ⟨r, t⟩⟩).u.hi), .int .i64 ((Rg.nar ⟨⟨a, b⟩, Pr.above ⟨c, d⟩ ⟨r, t⟩⟩).s.lo), .int .i64 ((Rg.nar ⟨⟨a, b⟩, Pr.above ⟨c, d⟩ ⟨r, t⟩⟩).s.hi)]) rfl rfl (exec_storeR 60 _ _ rfl g3 #[.int .u64 ((Rg.nar ⟨⟨a, b⟩, Pr.above ⟨c, d⟩ ⟨r, t⟩⟩).u.lo), .int .u64 ((Rg.nar ⟨⟨a, b⟩, Pr.above ⟨c, d⟩ ⟨r, t⟩⟩).u.hi), .int .i64 ((Rg.nar ⟨⟨a, b⟩, Pr.above ⟨c, d⟩ ⟨r, t⟩⟩).s.lo), .int .i64 ((Rg.nar ⟨⟨a, b⟩, Pr.above ⟨c, d⟩ ⟨r, t⟩⟩).s.hi)] (show ax.eval (.tmp 6) = .pointer (some ⟨g3, 0, none⟩) from t6) (show ax.eval (.tmp 103) = .agg #[.int .u64 ((Rg.nar ⟨⟨a, b⟩, Pr.above ⟨c, d⟩ ⟨r, t⟩⟩).u.lo), .int .u64 ((Rg.nar ⟨⟨a, b⟩, Pr.above ⟨c, d⟩ ⟨r, t⟩⟩).u.hi), .int .i64 ((Rg.nar ⟨⟨a, b⟩, Pr.above ⟨c, d⟩ ⟨r, t⟩⟩).s.lo), .int .i64 ((Rg.nar ⟨⟨a, b⟩, Pr.above ⟨c, d⟩ ⟨r, t⟩⟩).s.hi)] from s103) hr (by kernel_rfl) rfl (by simp [Value.oneCell'])) ⟨undef, rfl, trivial, hS.storeBi 6 2 rfl q_g3 rfl ⟨(show g1 ≠ g3 by omega), (show g2 ≠ g3 by omega), (show g4 ≠ g3 by omega), (show g5 ≠ g3 by omega), trivial⟩ (stored_setRow wx g3 _ _ _ hr)⟩
     ·
      have s104 : ax.tmps.getD 104 undef = .bool (Rg.narB ⟨⟨a, b⟩, Pr.above ⟨c, d⟩ ⟨r, t⟩⟩) := (hdone 0 _ rfl rfl).2 _ rfl
      exact wpOp_val (v := .bool (Rg.narB ⟨⟨a, b⟩, Pr.above ⟨c, d⟩ ⟨r, t⟩⟩)) (w' := wx) rfl rfl (by simp [execOp, Act.eval, s104]) ⟨_, rfl, tab_put rfl hs rfl rfl, hS.same 7 rfl⟩
   intro a13 w13 fl d13 z13 rest13 R13 hfl hS
   obtain ⟨B13, n13, hBs, hAs, hPs⟩ := hS.finish hfl rfl
   replace d13 := d13.trans d12
   replace z13 := z13.trans z12
   obtain ⟨⟨-, b_g1_13⟩, ⟨-, b_g2_13⟩, ⟨-, b_g3_13⟩, ⟨-, b_g4_13⟩, ⟨-, b_g5_13⟩, -⟩ := hBs
   have s6_13 := (rest13 6 (not_of (by kernel_rfl))).trans s6_12
   have s7_13 : a13.tmps.getD 7 undef = .bool (Rg.narB ⟨⟨a, b⟩, Pr.above ⟨c, d⟩ ⟨r, t⟩⟩) := R13 7 _ rfl
   clear R13 rest13 hS hfl hPs hAs
   clear s6_12 s7_12 s8_12 s9_12 b_g1_12 b_g2_12 b_g3_12 b_g4_12 b_g5_12 d12 z12
   refine wp_ret ?_
   try simp only [Exit.inBlock, Exit.then]
   refine bodyPost_ret (res_ct (fn := Try.f24) rfl s6_13 (load_row 60 b_g3_13 Try.underlying60 rfl (by kernel_rfl)) s7_13) d13 ?_
   have no0 := nb Ffk3.out
   have no1 := nb Ffk4.out
   have no2 := nb Ffk6.out
   have no3 := nb Ffk7.out
   have no4 := nb Ffk8.out
   have no5 := nb Ffk9.out
   have ho : cc = 6 := yb Ffk10.out
   have hk : ccOk cc = true := by rw [ho]; rfl
   have HD : givC cc ⟨⟨a, b⟩, ⟨c, d⟩⟩ ⟨⟨p, q⟩, ⟨r, t⟩⟩ = ⟨⟨a, b⟩, Pr.above ⟨c, d⟩ ⟨r, t⟩⟩ := by
     unfold givC
     simp only [if_neg no0, if_neg no1, if_neg no2, if_neg no3, if_neg no4, if_neg no5, if_pos ho]
     try rfl
   have HE : Value.tuple #[.agg #[.int .u64 ((Rg.nar ⟨⟨a, b⟩, Pr.above ⟨c, d⟩ ⟨r, t⟩⟩).u.lo), .int .u64 ((Rg.nar ⟨⟨a, b⟩, Pr.above ⟨c, d⟩ ⟨r, t⟩⟩).u.hi), .int .i64 ((Rg.nar ⟨⟨a, b⟩, Pr.above ⟨c, d⟩ ⟨r, t⟩⟩).s.lo), .int .i64 ((Rg.nar ⟨⟨a, b⟩, Pr.above ⟨c, d⟩ ⟨r, t⟩⟩).s.hi)], .bool (Rg.narB ⟨⟨a, b⟩, Pr.above ⟨c, d⟩ ⟨r, t⟩⟩)] = .tuple #[Rg.val (Rg.giv cc ⟨⟨a, b⟩, ⟨c, d⟩⟩ ⟨⟨p, q⟩, ⟨r, t⟩⟩), .bool (Rg.givB cc ⟨⟨a, b⟩, ⟨c, d⟩⟩ ⟨⟨p, q⟩, ⟨r, t⟩⟩)] := by unfold Rg.giv Rg.givB; rw [Ffk1.out, Ffk2.out, hk, if_pos (by rfl), HD]; rfl
   exact ⟨retV HE, B13⟩
  have Ffk10 := Lib.hid fk10; clear fk10
  refine wp_regx (SX W w10.heap.size [⟨g1, 60, (cR a b c d), none, #[]⟩, ⟨g2, 60, (cR p q r t), none, #[]⟩, ⟨g3, 60, (cR 0 0 0 0), none, #[]⟩, ⟨g4, 95, (cU a b), none, #[]⟩, ⟨g5, 99, (cS c d), none, #[]⟩] []) (TabX [fun vx => vx = .bool false, fun vx => vx = .bool false]) (by kernel_rfl) (back_of (by kernel_rfl)) (dst_of (by kernel_rfl)) (in_ofz (by kernel_rfl) z10) (fun fl w1 hfl hw => SX.start' hw B10 hfl rfl ⟨b_g1_10, b_g2_10, b_g3_10, b_g4_10, b_g5_10, trivial⟩) ?h40 ?_
  case h40 =>
    intro ix ox ax wx fl ho hS hfi clo hsz hrest hdone hund
    have t25 := (hrest 25 (not_of (by kernel_rfl))).trans s25_10
    have hs : ax.tmps.size = 105 := hsz.trans z10
    have hi : ix < 2 := (Array.getElem?_eq_some_iff.1 ho).1
    clear hrest hsz hund
    obtain rfl | rfl : ix = 0 ∨ ix = 1 := by omega
    all_goals obtain rfl := Option.some.inj (show some _ = some ox from ho)
    ·
     exact wpOp_val (v := .bool (cc == 6)) (w' := wx) rfl rfl (by (simp [execOp, Act.eval, t25, go_sem]; try (simp only [IntKind.wrap_i64, wrap64]))) ⟨_, rfl, tab_put rfl hs rfl (congrArg Value.bool Ffk10.out), hS.same 0 rfl⟩
    ·
     have s74 : ax.tmps.getD 74 undef = .bool false := (hdone 0 _ rfl rfl).2 _ rfl
     exact wpOp_val (v := .bool false) (w' := wx) rfl rfl (by simp [execOp, Act.eval, s74]) ⟨_, rfl, tab_put rfl hs rfl rfl, hS.same 1 rfl⟩
  intro a11 w11 fl d11 z11 rest11 R11 hfl hS
  obtain ⟨B11, n11, hBs, hAs, hPs⟩ := hS.finish hfl rfl
  replace d11 := d11.trans d10
  replace z11 := z11.trans z10
  obtain ⟨⟨-, b_g1_11⟩, ⟨-, b_g2_11⟩, ⟨-, b_g3_11⟩, ⟨-, b_g4_11⟩, ⟨-, b_g5_11⟩, -⟩ := hBs
  have s5_11 := (rest11 5 (not_of (by kernel_rfl))).trans s5_10
  have s6_11 := (rest11 6 (not_of (by kernel_rfl))).trans s6_10
  have s7_11 := (rest11 7 (not_of (by kernel_rfl))).trans s7_10
  have s8_11 := (rest11 8 (not_of (by kernel_rfl))).trans s8_10
  have s9_11 := (rest11 9 (not_of (by kernel_rfl))).trans s9_10
  have s25_11 := (rest11 25 (not_of (by kernel_rfl))).trans s25_10
  have s73_11 : a11.tmps.getD 73 undef = .bool false := R11 1 _ rfl
  clear R11 rest11 hS hfl hPs hAs
  clear s5_10 s6_10 s7_10 s8_10 s9_10 s25_10 s67_10 b_g1_10 b_g2_10 b_g3_10 b_g4_10 b_g5_10 d10 z10
  refine wp_cond_false (show a11.tmps.getD 73 undef = .bool false from s73_11) ?_
  refine wp_seq ?_
  cases fk11 : cc == 7
  case true =>
   have Ffk11 := Lib.hid fk11; clear fk11
   refine wp_regx (SX W w11.heap.size [⟨g1, 60, (cR a b c d), none, #[]⟩, ⟨g2, 60, (cR p q r t), none, #[]⟩, ⟨g3, 60, (cR 0 0 0 0), none, #[]⟩, ⟨g4, 95, (cU a b), none, #[]⟩, ⟨g5, 99, (cS c d), none, #[]⟩] []) (TabX [fun vx => vx = .bool true, fun vx => vx = .bool true]) (by kernel_rfl) (back_of (by kernel_rfl)) (dst_of (by kernel_rfl)) (in_ofz (by kernel_rfl) z11) (fun fl w1 hfl hw => SX.start' hw B11 hfl rfl ⟨b_g1_11, b_g2_11, b_g3_11, b_g4_11, b_g5_11, trivial⟩) ?h41 ?_
   case h41 =>
     intro ix ox ax wx fl ho hS hfi clo hsz hrest hdone hund
     have t25 := (hrest 25 (not_of (by kernel_rfl))).trans s25_11
     have hs : ax.tmps.size = 105 := hsz.trans z11
     have hi : ix < 2 := (Array.getElem?_eq_some_iff.1 ho).1
     clear hrest hsz hund
     obtain rfl | rfl : ix = 0 ∨ ix = 1 := by omega
     all_goals obtain rfl := Option.some.inj (show some _ = some ox from ho)
     ·
      exact wpOp_val (v := .bool (cc == 7)) (w' := wx) rfl rfl (by (simp [execOp, Act.eval, t25, go_sem]; try (simp only [IntKind.wrap_i64, wrap64]))) ⟨_, rfl, tab_put rfl hs rfl (congrArg Value.bool Ffk11.out), hS.same 0 rfl⟩
     ·
      have s80 : ax.tmps.getD 80 undef = .bool true := (hdone 0 _ rfl rfl).2 _ rfl
      exact wpOp_val (v := .bool true) (w' := wx) rfl rfl (by simp [execOp, Act.eval, s80]) ⟨_, rfl, tab_put rfl hs rfl rfl, hS.same 1 rfl⟩
   intro a12 w12 fl d12 z12 rest12 R12 hfl hS
   obtain ⟨B12, n12, hBs, hAs, hPs⟩ := hS.finish hfl rfl
   replace d12 := d12.trans d11
   replace z12 := z12.trans z11
   obtain ⟨⟨-, b_g1_12⟩, ⟨-, b_g2_12⟩, ⟨-, b_g3_12⟩, ⟨-, b_g4_12⟩, ⟨-, b_g5_12⟩, -⟩ := hBs
   have s5_12 := (rest12 5 (not_of (by kernel_rfl))).trans s5_11
   have s6_12 := (rest12 6 (not_of (by kernel_rfl))).trans s6_11
   have s7_12 := (rest12 7 (not_of (by kernel_rfl))).trans s7_11
   have s8_12 := (rest12 8 (not_of (by kernel_rfl))).trans s8_11
   have s9_12 := (rest12 9 (not_of (by kernel_rfl))).trans s9_11
   have s25_12 := (rest12 25 (not_of (by kernel_rfl))).trans s25_11
   have s79_12 : a12.tmps.getD 79 undef = .bool true := R12 1 _ rfl
   clear R12 rest12 hS hfl hPs hAs
   clear s5_11 s6_11 s7_11 s8_11 s9_11 s25_11 s73_11 b_g1_11 b_g2_11 b_g3_11 b_g4_11 b_g5_11 d11 z11
   refine wp_cond_true (show a12.tmps.getD 79 undef = .bool true from s79_12) ?_
   refine wp_regx (SX W w12.heap.size [⟨g1, 60, (cR a b c d), none, #[]⟩, ⟨g2, 60, (cR p q r t), none, #[]⟩, ⟨g3, 60, (cR 0 0 0 0), none, #[]⟩, ⟨g4, 95, (cU a b), none, #[]⟩, ⟨g5, 99, (cS c d), some 4, (cS ((Pr.atLeast ⟨c, d⟩ ⟨r, t⟩).lo) ((Pr.atLeast ⟨c, d⟩ ⟨r, t⟩).hi))⟩] []) (TabX [fun vx => vx = .agg #[.int .i64 c, .int .i64 d], fun vx => vx = .agg #[.int .u64 p, .int .u64 q, .int .i64 r, .int .i64 t], fun vx => vx = .agg #[.int .i64 r, .int .i64 t], fun vx => vx = .agg #[.int .i64 ((Pr.atLeast ⟨c, d⟩ ⟨r, t⟩).lo), .int .i64 ((Pr.atLeast ⟨c, d⟩ ⟨r, t⟩).hi)], fun _ => True]) (by kernel_rfl) (back_of (by kernel_rfl)) (dst_of (by kernel_rfl)) (in_ofz (by kernel_rfl) z12) (fun fl w1 hfl hw => SX.start' hw B12 hfl rfl ⟨b_g1_12, b_g2_12, b_g3_12, b_g4_12, b_g5_12, trivial⟩) ?h42 ?_
   case h42 =>
     intro ix ox ax wx fl ho hS hfi clo hsz hrest hdone hund
     have t5 := (hrest 5 (not_of (by kernel_rfl))).trans s5_12
     have t9 := (hrest 9 (not_of (by kernel_rfl))).trans s9_12
     have hs : ax.tmps.size = 105 := hsz.trans z12
     have hi : ix < 5 := (Array.getElem?_eq_some_iff.1 ho).1
     clear hrest hsz hund
     obtain rfl | rfl | rfl | rfl | rfl : ix = 0 ∨ ix = 1 ∨ ix = 2 ∨ ix = 3 ∨ ix = 4 := by omega
     all_goals obtain rfl := Option.some.inj (show some _ = some ox from ho)
     ·
      have hr := hS.rowFi 4 rfl (not_yet clo hfi (by kernel_rfl))
      exact wpOp_val (v := .agg #[.int .i64 c, .int .i64 d]) (w' := wx) rfl rfl (exec_loadR 99 _ rfl g5 0 (show ax.eval (.tmp 9) = .pointer (some ⟨g5, 0, none⟩) from t9) hr [.int .i64 c, .int .i64 d] rfl _ Try.underlying99 rfl (by kernel_rfl)) ⟨_, rfl, tab_put rfl hs rfl rfl, hS.same 0 rfl⟩
     ·
      have hr := hS.rowNi 1 rfl
      exact wpOp_val (v := .agg #[.int .u64 p, .int .u64 q, .int .i64 r, .int .i64 t]) (w' := wx) rfl rfl (exec_loadR 60 _ rfl g2 0 (show ax.eval (.tmp 5) = .pointer (some ⟨g2, 0, none⟩) from t5) hr [.int .u64 p, .int .u64 q, .int .i64 r, .int .i64 t] rfl _ Try.underlying60 rfl (by kernel_rfl)) ⟨_, rfl, tab_put rfl hs rfl rfl, hS.same 1 rfl⟩
     ·
      have s82 : ax.tmps.getD 82 undef = .agg #[.int .u64 p, .int .u64 q, .int .i64 r, .int .i64 t] := (hdone 0 _ rfl rfl).2 _ rfl
      refine wpOp_call (args := #[.agg #[.int .u64 p, .int .u64 q, .int .i64 r, .int .i64 t]]) rfl rfl (exec_call rfl rfl rfl (args1 (show ax.eval (.tmp 82) = .agg #[.int .u64 p, .int .u64 q, .int .i64 r, .int .i64 t] from s82)) Try.func63 (by decide +kernel) rfl) ?_
      · refine (signed_n p q r t wx).mono ?_
        rintro e w' ⟨rfl, b9⟩
        exact ⟨_, rfl, _, rfl, tab_put rfl hs rfl rfl, hS.quiet 2 rfl b9⟩
     ·
      have s81 : ax.tmps.getD 81 undef = .agg #[.int .i64 c, .int .i64 d] := (hdone 0 _ rfl rfl).2 _ rfl
      have s83 : ax.tmps.getD 83 undef = .agg #[.int .i64 r, .int .i64 t] := (hdone 1 _ rfl rfl).2 _ rfl
      refine wpOp_call (args := #[.agg #[.int .i64 c, .int .i64 d], .agg #[.int .i64 r, .int .i64 t]]) rfl rfl (exec_call rfl rfl rfl (args2 (show ax.eval (.tmp 81) = .agg #[.int .i64 c, .int .i64 d] from s81) (show ax.eval (.tmp 83) = .agg #[.int .i64 r, .int .i64 t] from s83)) Try.func72 (by decide +kernel) rfl) ?_
      · refine (atLeastS_n c d r t wx).mono ?_
        rintro e w' ⟨rfl, b9⟩
        exact ⟨_, rfl, _, rfl, tab_put rfl hs rfl rfl, hS.quiet 3 rfl b9⟩
     ·
      have s84 : ax.tmps.getD 84 undef = .agg #[.int .i64 ((Pr.atLeast ⟨c, d⟩ ⟨r, t⟩).lo), .int .i64 ((Pr.atLeast ⟨c, d⟩ ⟨r, t⟩).hi)] := (hdone 0 _ rfl rfl).2 _ rfl
      have hr := hS.rowFi 4 rfl hfi
      exact wpOp_skp (w' := wx.setRow g5 #[.int .i64 ((Pr.atLeast ⟨c, d⟩ ⟨r, t⟩).lo), .int .i64 ((Pr.atLeast ⟨c, d⟩ ⟨r, t⟩).hi)]) rfl rfl (exec_storeR 99 _ _ rfl g5 #[.int .i64 ((Pr.atLeast ⟨c, d⟩ ⟨r, t⟩).lo), .int .i64 ((Pr.atLeast ⟨c, d⟩ ⟨r, t⟩).hi)] (show ax.eval (.tmp 9) = .pointer (some ⟨g5, 0, none⟩) from t9) (show ax.eval (.tmp 84) = .agg #[.int .i64 ((Pr.atLeast ⟨c, d⟩ ⟨r, t⟩).lo), .int .i64 ((Pr.atLeast ⟨c, d⟩ ⟨r, t⟩).hi)] from s84) hr (by kernel_rfl) rfl (by simp [Value.oneCell'])) ⟨undef, rfl, trivial, hS.storeBi 4 4 rfl q_g5 rfl ⟨(show g1 ≠ g5 by omega), (show g2 ≠ g5 by omega), (show g3 ≠ g5 by omega), (show g4 ≠ g5 by omega), trivial⟩ (stored_setRow wx g5 _ _ _ hr)⟩
   intro a13 w13 fl d13 z13 rest13 R13 hfl hS
   obtain ⟨B13, n13, hBs, hAs, hPs⟩ := hS.finish hfl rfl
   replace d13 := d13.trans d12
   replace z13 := z13.trans z12
   obtain ⟨⟨-, b_g1_13⟩, ⟨-, b_g2_13⟩, ⟨-, b_g3_13⟩, ⟨-, b_g4_13⟩, ⟨-, b_g5_13⟩, -⟩ := hBs
   have s6_13 := (rest13 6 (not_of (by kernel_rfl))).trans s6_12
   have s7_13 := (rest13 7 (not_of (by kernel_rfl))).trans s7_12
   have s8_13 := (rest13 8 (not_of (by kernel_rfl))).trans s8_12
   have s9_13 := (rest13 9 (not_of (by kernel_rfl))).trans s9_12
   clear R13 rest13 hS hfl hPs hAs
   clear s5_12 s6_12 s7_12 s8_12 s9_12 s25_12 s79_12 b_g1_12 b_g2_12 b_g3_12 b_g4_12 b_g5_12 d12 z12
   refine wp_seq ?_
   refine wp_regx (SX W w13.heap.size [⟨g1, 60, (cR a b c d), none, #[]⟩, ⟨g2, 60, (cR p q r t), none, #[]⟩, ⟨g3, 60, (cR 0 0 0 0), some 6, (cR ((Rg.nar ⟨⟨a, b⟩, Pr.atLeast ⟨c, d⟩ ⟨r, t⟩⟩).u.lo) ((Rg.nar ⟨⟨a, b⟩, Pr.atLeast ⟨c, d⟩ ⟨r, t⟩⟩).u.hi) ((Rg.nar ⟨⟨a, b⟩, Pr.atLeast ⟨c, d⟩ ⟨r, t⟩⟩).s.lo) ((Rg.nar ⟨⟨a, b⟩, Pr.atLeast ⟨c, d⟩ ⟨r, t⟩⟩).s.hi))⟩, ⟨g4, 95, (cU a b), none, #[]⟩, ⟨g5, 99, (cS ((Pr.atLeast ⟨c, d⟩ ⟨r, t⟩).lo) ((Pr.atLeast ⟨c, d⟩ ⟨r, t⟩).hi)), none, #[]⟩] []) (TabX [fun vx => vx = .agg #[.int .u64 a, .int .u64 b], fun vx => vx = .agg #[.int .i64 ((Pr.atLeast ⟨c, d⟩ ⟨r, t⟩).lo), .int .i64 ((Pr.atLeast ⟨c, d⟩ ⟨r, t⟩).hi)], fun vx => vx = .agg #[.int .u64 a, .int .u64 b, .int .i64 ((Pr.atLeast ⟨c, d⟩ ⟨r, t⟩).lo), .int .i64 ((Pr.atLeast ⟨c, d⟩ ⟨r, t⟩).hi)], fun vx => vx = .tuple #[.agg #[.int .u64 ((Rg.nar ⟨⟨a, b⟩, Pr.atLeast ⟨c, d⟩ ⟨r, t⟩⟩).u.lo), .int .u64 ((Rg.nar ⟨⟨a, b⟩, Pr.atLeast ⟨c, d⟩ ⟨r, t⟩⟩).u.hi), .int .i64 ((Rg.nar ⟨⟨a, b⟩, Pr.atLeast ⟨c, d⟩ ⟨r, t⟩⟩).s.lo), .int .i64 ((Rg.nar ⟨⟨a, b⟩, Pr.atLeast ⟨c, d⟩ ⟨r, t⟩⟩).s.hi)], .bool (Rg.narB ⟨⟨a, b⟩, Pr.atLeast ⟨c, d⟩ ⟨r, t⟩⟩)], fun vx => vx = .agg #[.int .u64 ((Rg.nar ⟨⟨a, b⟩, Pr.atLeast ⟨c, d⟩ ⟨r, t⟩⟩).u.lo), .int .u64 ((Rg.nar ⟨⟨a, b⟩, Pr.atLeast ⟨c, d⟩ ⟨r, t⟩⟩).u.hi), .int .i64 ((Rg.nar ⟨⟨a, b⟩, Pr.atLeast ⟨c, d⟩ ⟨r, t⟩⟩).s.lo), .int .i64 ((Rg.nar ⟨⟨a, b⟩, Pr.atLeast ⟨c, d⟩ ⟨r, t⟩⟩).s.hi)], fun vx => vx = .bool (Rg.narB ⟨⟨a, b⟩, Pr.atLeast ⟨c, d⟩ ⟨r, t⟩⟩), fun _ => True, fun vx => vx = .bool (Rg.narB ⟨⟨a, b⟩, Pr.atLeast ⟨c, d⟩ ⟨r, t⟩⟩)]) (by kernel_rfl) (back_of (by kernel_rfl)) (dst_of (by kernel_rfl)) (in_ofz (by kernel_rfl) z13) (fun fl w1 hfl hw => SX.start' hw B13 hfl rfl ⟨b_g1_13, b_g2_13, b_g3_13, b_g4_13, b_g5_13, trivial⟩) ?h43 ?_
   case h43 =>
     intro ix ox ax wx fl ho hS hfi clo hsz hrest hdone hund
     have t6 := (hrest 6 (not_of (by kernel_rfl))).trans s6_13
     have t8 := (hrest 8 (not_of (by kernel_rfl))).trans s8_13
     have t9 := (hrest 9 (not_of (by kernel_rfl))).trans s9_13
     have hs : ax.tmps.size = 105 := hsz.trans z13
     have hi : ix < 8 := (Array.getElem?_eq_some_iff.1 ho).1
     clear hrest hsz hund
     obtain rfl | rfl | rfl | rfl | rfl | rfl | rfl | rfl : ix = 0 ∨ ix = 1 ∨ ix = 2 ∨ ix = 3 ∨ ix = 4 ∨ ix = 5 ∨ ix = 6 ∨ ix = 7 := by omega
     all_goals obtain rfl := Option.some.inj (show some _ = some ox from ho)
     ·
      have hr := hS.rowNi 3 rfl
      exact wpOp_val (v := .agg #[.int .u64 a, .int .u64 b]) (w' := wx) rfl rfl (exec_loadR 95 _ rfl g4 0 (show ax.eval (.tmp 8) = .pointer (some ⟨g4, 0, none⟩) from t8) hr [.int .u64 a, .int .u64 b] rfl _ Try.underlying95 rfl (by kernel_rfl)) ⟨_, rfl, tab_put rfl hs rfl rfl, hS.same 0 rfl⟩
     ·
      have hr := hS.rowNi 4 rfl
      exact wpOp_val (v := .agg #[.int .i64 ((Pr.atLeast ⟨c, d⟩ ⟨r, t⟩).lo), .int .i64 ((Pr.atLeast ⟨c, d⟩ ⟨r, t⟩).hi)]) (w' := wx) rfl rfl (exec_loadR 99 _ rfl g5 0 (show ax.eval (.tmp 9) = .pointer (some ⟨g5, 0, none⟩) from t9) hr [.int .i64 ((Pr.atLeast ⟨c, d⟩ ⟨r, t⟩).lo), .int .i64 ((Pr.atLeast ⟨c, d⟩ ⟨r, t⟩).hi)] rfl _ Try.underlying99 rfl (by kernel_rfl)) ⟨_, rfl, tab_put rfl hs rfl rfl, hS.same 1 rfl⟩
     ·
      have s99 : ax.tmps.getD 99 undef = .agg #[.int .u64 a, .int .u64 b] := (hdone 0 _ rfl rfl).2 _ rfl
      have s100 : ax.tmps.getD 100 undef = .agg #[.int .i64 ((Pr.atLeast ⟨c, d⟩ ⟨r, t⟩).lo), .int .i64 ((Pr.atLeast ⟨c, d⟩ ⟨r, t⟩).hi)] := (hdone 1 _ rfl rfl).2 _ rfl
      refine wpOp_call (args := #[.agg #[.int .u64 a, .int .u64 b], .agg #[.int .i64 ((Pr.atLeast ⟨c, d⟩ ⟨r, t⟩).lo), .int .i64 ((Pr.atLeast ⟨c, d⟩ ⟨r, t⟩).hi)]]) rfl rfl (exec_call rfl rfl rfl (args2 (show ax.eval (.tmp 99) = .agg #[.int .u64 a, .int .u64 b] from s99) (show ax.eval (.tmp 100) = .agg #[.int .i64 ((Pr.atLeast ⟨c, d⟩ ⟨r, t⟩).lo), .int .i64 ((Pr.atLeast ⟨c, d⟩ ⟨r, t⟩).hi)] from s100)) Try.func60 (by decide +kernel) rfl) ?_
      · refine (both_n a b ((Pr.atLeast ⟨c, d⟩ ⟨r, t⟩).lo) ((Pr.atLeast ⟨c, d⟩ ⟨r, t⟩).hi) wx).mono ?_
        rintro e w' ⟨rfl, b9⟩
        exact ⟨_, rfl, _, rfl, tab_put rfl hs rfl rfl, hS.quiet 2 rfl b9⟩
     ·
      have s101 : ax.tmps.getD 101 undef = .agg #[.int .u64 a, .int .u64 b, .int .i64 ((Pr.atLeast ⟨c, d⟩ ⟨r, t⟩).lo), .int .i64 ((Pr.atLeast ⟨c, d⟩ ⟨r, t⟩).hi)] := (hdone 0 _ rfl rfl).2 _ rfl
      refine wpOp_call (args := #[.agg #[.int .u64 a, .int .u64 b, .int .i64 ((Pr.atLeast ⟨c, d⟩ ⟨r, t⟩).lo), .int .i64 ((Pr.atLeast ⟨c, d⟩ ⟨r, t⟩).hi)]]) rfl rfl (exec_call rfl rfl rfl (args1 (show ax.eval (.tmp 101) = .agg #[.int .u64 a, .int .u64 b, .int .i64 ((Pr.atLeast ⟨c, d⟩ ⟨r, t⟩).lo), .int .i64 ((Pr.atLeast ⟨c, d⟩ ⟨r, t⟩).hi)] from s101)) Try.func28 (by decide +kernel) rfl) ?_
      · refine (narrow_n a b ((Pr.atLeast ⟨c, d⟩ ⟨r, t⟩).lo) ((Pr.atLeast ⟨c, d⟩ ⟨r, t⟩).hi) wx (by have hh := (giv_ok cc (a := ⟨⟨a, b⟩, ⟨c, d⟩⟩) (b := ⟨⟨p, q⟩, ⟨r, t⟩⟩) HA.out HB.out Ffk1.out); unfold givC at hh; simp only [if_neg (nb Ffk3.out), if_neg (nb Ffk4.out), if_neg (nb Ffk6.out), if_neg (nb Ffk7.out), if_neg (nb Ffk8.out), if_neg (nb Ffk9.out), if_neg (nb Ffk10.out), if_pos (yb Ffk11.out)] at hh; exact hh)).mono ?_
        rintro e w' ⟨rfl, b9⟩
        exact ⟨_, rfl, _, rfl, tab_put rfl hs rfl rfl, hS.quiet 3 rfl b9⟩
     ·
      have s102 : ax.tmps.getD 102 undef = .tuple #[.agg #[.int .u64 ((Rg.nar ⟨⟨a, b⟩, Pr.atLeast ⟨c, d⟩ ⟨r, t⟩⟩).u.lo), .int .u64 ((Rg.nar ⟨⟨a, b⟩, Pr.atLeast ⟨c, d⟩ ⟨r, t⟩⟩).u.hi), .int .i64 ((Rg.nar ⟨⟨a, b⟩, Pr.atLeast ⟨c, d⟩ ⟨r, t⟩⟩).s.lo), .int .i64 ((Rg.nar ⟨⟨a, b⟩, Pr.atLeast ⟨c, d⟩ ⟨r, t⟩⟩).s.hi)], .bool (Rg.narB ⟨⟨a, b⟩, Pr.atLeast ⟨c, d⟩ ⟨r, t⟩⟩)] := (hdone 0 _ rfl rfl).2 _ rfl
      exact wpOp_val (v := .agg #[.int .u64 ((Rg.nar ⟨⟨a, b⟩, Pr.atLeast ⟨c, d⟩ ⟨r, t⟩⟩).u.lo), .int .u64 ((Rg.nar ⟨⟨a, b⟩, Pr.atLeast ⟨c, d⟩ ⟨r, t⟩⟩).u.hi), .int .i64 ((Rg.nar ⟨⟨a, b⟩, Pr.atLeast ⟨c, d⟩ ⟨r, t⟩⟩).s.lo), .int .i64 ((Rg.nar ⟨⟨a, b⟩, Pr.atLeast ⟨c, d⟩ ⟨r, t⟩⟩).s.hi)]) (w' := wx) rfl rfl (by simp [execOp, Act.eval, s102, go_sem]) ⟨_, rfl, tab_put rfl hs rfl rfl, hS.same 4 rfl⟩
     ·
      have s102 : ax.tmps.getD 102 undef = .tuple #[.agg #[.int .u64 ((Rg.nar ⟨⟨a, b⟩, Pr.atLeast ⟨c, d⟩ ⟨r, t⟩⟩).u.lo), .int .u64 ((Rg.nar ⟨⟨a, b⟩, Pr.atLeast ⟨c, d⟩ ⟨r, t⟩⟩).u.hi), .int .i64 ((Rg.nar ⟨⟨a, b⟩, Pr.atLeast ⟨c, d⟩ ⟨r, t⟩⟩).s.lo), .int .i64 ((Rg.nar ⟨⟨a, b⟩, Pr.atLeast ⟨c, d⟩ ⟨r, t⟩⟩).s.hi)], .bool (Rg.narB ⟨⟨a, b⟩, Pr.atLeast ⟨c, d⟩ ⟨r, t⟩⟩)] := (hdone 0 _ rfl rfl).2 _ rfl
      exact wpOp_val (v := .bool (Rg.narB ⟨⟨a, b⟩, Pr.atLeast ⟨c, d⟩ ⟨r, t⟩⟩)) (w' := wx) rfl rfl (by simp [execOp, Act.eval, s102, go_sem]) ⟨_, rfl, tab_put rfl hs rfl rfl, hS.same 5 rfl⟩
     ·
      have s103 : ax.tmps.getD 103 undef = .agg #[.int .u64 ((Rg.nar ⟨⟨a, b⟩, Pr.atLeast ⟨c, d⟩ ⟨r, t⟩⟩).u.lo), .int .u64 ((Rg.nar ⟨⟨a, b⟩, Pr.atLeast ⟨c, d⟩ ⟨r, t⟩⟩).u.hi), .int .i64 ((Rg.nar ⟨⟨a, b⟩, Pr.atLeast ⟨c, d⟩ ⟨r, t⟩⟩).s.lo), .int .i64 ((Rg.nar ⟨⟨a, b⟩, Pr.atLeast ⟨c, d⟩ ⟨r, t⟩⟩).s.hi)] := (hdone 0 _ rfl rfl).2 _ rfl
      have hr := hS.rowFi 2 rfl hfi
      exact wpOp_skp (w' := wx.setRow g3 #[.int .u64 ((Rg.nar ⟨⟨a, b⟩, Pr.atLeast ⟨c, d⟩ ⟨r, t⟩⟩).u.lo), .int .u64 ((Rg.nar ⟨⟨a, b⟩, Pr.atLeast ⟨c, d⟩ ⟨r, t⟩⟩).u.hi), .int .i64 ((Rg.nar ⟨⟨a, b⟩, Pr.atLeast ⟨c, d⟩ ⟨r, t⟩⟩).s.lo), .int .i64 ((Rg.nar ⟨⟨a, b⟩, Pr.atLeast ⟨c, d⟩ ⟨r, t⟩⟩).s.hi)]) rfl rfl (exec_storeR 60 _ _ rfl g3 #[.int .u64 ((Rg.nar ⟨⟨a, b⟩, Pr.atLeast ⟨c, d⟩ ⟨r, t⟩⟩).u.lo), .int .u64 ((Rg.nar ⟨⟨a, b⟩, Pr.atLeast ⟨c, d⟩ ⟨r, t⟩⟩).u.hi), .int .i64 ((Rg.nar ⟨⟨a, b⟩, Pr.atLeast ⟨c, d⟩ ⟨r, t⟩⟩).s.lo), .int .i64 ((Rg.nar ⟨⟨a, b⟩, Pr.atLeast ⟨c, d⟩ ⟨r, t⟩⟩).s.hi)] (show ax.eval (.tmp 6) = .pointer (some ⟨g3, 0, none⟩) from t6) (show ax.eval (.tmp 103) = .agg #[.int .u64 ((Rg.nar ⟨⟨a, b⟩, Pr.atLeast ⟨c, d⟩ ⟨r, t⟩⟩).u.lo), .int .u64 ((Rg.nar ⟨⟨a, b⟩, Pr.atLeast ⟨c, d⟩ ⟨r, t⟩⟩).u.hi), .int .i64 ((Rg.nar ⟨⟨a, b⟩, Pr.atLeast ⟨c, d⟩ ⟨r, t⟩⟩).s.lo), .int .i64 ((Rg.nar ⟨⟨a, b⟩, Pr.atLeast ⟨c, d⟩ ⟨r, t⟩⟩).s.hi)] from s103) hr (by kernel_rfl) rfl (by simp [Value.oneCell'])) ⟨undef, rfl, trivial, hS.storeBi 6 2 rfl q_g3 rfl ⟨(show g1 ≠ g3 by omega), (show g2 ≠ g3 by omega), (show g4 ≠ g3 by omega), (show g5 ≠ g3 by omega), trivial⟩ (stored_setRow wx g3 _ _ _ hr)⟩
     ·
      have s104 : ax.tmps.getD 104 undef = .bool (Rg.narB ⟨⟨a, b⟩, Pr.atLeast ⟨c, d⟩ ⟨r, t⟩⟩) := (hdone 0 _ rfl rfl).2 _ rfl
      exact wpOp_val (v := .bool (Rg.narB ⟨⟨a, b⟩, Pr.atLeast ⟨c, d⟩ ⟨r, t⟩⟩)) (w' := wx) rfl rfl (by simp [execOp, Act.eval, s104]) ⟨_, rfl, tab_put rfl hs rfl rfl, hS.same 7 rfl⟩
   intro a14 w14 fl d14 z14 rest14 R14 hfl hS
   obtain ⟨B14, n14, hBs, hAs, hPs⟩ := hS.finish hfl rfl
   replace d14 := d14.trans d13
   replace z14 := z14.trans z13
   obtain ⟨⟨-, b_g1_14⟩, ⟨-, b_g2_14⟩, ⟨-, b_g3_14⟩, ⟨-, b_g4_14⟩, ⟨-, b_g5_14⟩, -⟩ := hBs
   have s6_14 := (rest14 6 (not_of (by kernel_rfl))).trans s6_13
   have s7_14 : a14.tmps.getD 7 undef = .bool (Rg.narB ⟨⟨a, b⟩, Pr.atLeast ⟨c, d⟩ ⟨r, t⟩⟩) := R14 7 _ rfl
   clear R14 rest14 hS hfl hPs hAs
   clear s6_13 s7_13 s8_13 s9_13 b_g1_13 b_g2_13 b_g3_13 b_g4_13 b_g5_13 d13 z13
   refine wp_ret ?_
   try simp only [Exit.inBlock, Exit.then]
   refine bodyPost_ret (res_ct (fn := Try.f24) rfl s6_14 (load_row 60 b_g3_14 Try.underlying60 rfl (by kernel_rfl)) s7_14) d14 ?_
   have no0 := nb Ffk3.out
   have no1 := nb Ffk4.out
   have no2 := nb Ffk6.out
   have no3 := nb Ffk7.out
   have no4 := nb Ffk8.out
   have no5 := nb Ffk9.out
   have no6 := nb Ffk10.out
   have ho : cc = 7 := yb Ffk11.out
   have hk : ccOk cc = true := by rw [ho]; rfl
   have HD : givC cc ⟨⟨a, b⟩, ⟨c, d⟩⟩ ⟨⟨p, q⟩, ⟨r, t⟩⟩ = ⟨⟨a, b⟩, Pr.atLeast ⟨c, d⟩ ⟨r, t⟩⟩ := by
     unfold givC
     simp only [if_neg no0, if_neg no1, if_neg no2, if_neg no3, if_neg no4, if_neg no5, if_neg no6, if_pos ho]
     try rfl
   have HE : Value.tuple #[.agg #[.int .u64 ((Rg.nar ⟨⟨a, b⟩, Pr.atLeast ⟨c, d⟩ ⟨r, t⟩⟩).u.lo), .int .u64 ((Rg.nar ⟨⟨a, b⟩, Pr.atLeast ⟨c, d⟩ ⟨r, t⟩⟩).u.hi), .int .i64 ((Rg.nar ⟨⟨a, b⟩, Pr.atLeast ⟨c, d⟩ ⟨r, t⟩⟩).s.lo), .int .i64 ((Rg.nar ⟨⟨a, b⟩, Pr.atLeast ⟨c, d⟩ ⟨r, t⟩⟩).s.hi)], .bool (Rg.narB ⟨⟨a, b⟩, Pr.atLeast ⟨c, d⟩ ⟨r, t⟩⟩)] = .tuple #[Rg.val (Rg.giv cc ⟨⟨a, b⟩, ⟨c, d⟩⟩ ⟨⟨p, q⟩, ⟨r, t⟩⟩), .bool (Rg.givB cc ⟨⟨a, b⟩, ⟨c, d⟩⟩ ⟨⟨p, q⟩, ⟨r, t⟩⟩)] := by unfold Rg.giv Rg.givB; rw [Ffk1.out, Ffk2.out, hk, if_pos (by rfl), HD]; rfl
   exact ⟨retV HE, B14⟩
  have Ffk11 := Lib.hid fk11; clear fk11
  refine wp_regx (SX W w11.heap.size [⟨g1, 60, (cR a b c d), none, #[]⟩, ⟨g2, 60, (cR p q r t), none, #[]⟩, ⟨g3, 60, (cR 0 0 0 0), none, #[]⟩, ⟨g4, 95, (cU a b), none, #[]⟩, ⟨g5, 99, (cS c d), none, #[]⟩] []) (TabX [fun vx => vx = .bool false, fun vx => vx = .bool false]) (by kernel_rfl) (back_of (by kernel_rfl)) (dst_of (by kernel_rfl)) (in_ofz (by kernel_rfl) z11) (fun fl w1 hfl hw => SX.start' hw B11 hfl rfl ⟨b_g1_11, b_g2_11, b_g3_11, b_g4_11, b_g5_11, trivial⟩) ?h44 ?_
  case h44 =>
    intro ix ox ax wx fl ho hS hfi clo hsz hrest hdone hund
    have t25 := (hrest 25 (not_of (by kernel_rfl))).trans s25_11
    have hs : ax.tmps.size = 105 := hsz.trans z11
    have hi : ix < 2 := (Array.getElem?_eq_some_iff.1 ho).1
    clear hrest hsz hund
    obtain rfl | rfl : ix = 0 ∨ ix = 1 := by omega
    all_goals obtain rfl := Option.some.inj (show some _ = some ox from ho)
    ·
     exact wpOp_val (v := .bool (cc == 7)) (w' := wx) rfl rfl (by (simp [execOp, Act.eval, t25, go_sem]; try (simp only [IntKind.wrap_i64, wrap64]))) ⟨_, rfl, tab_put rfl hs rfl (congrArg Value.bool Ffk11.out), hS.same 0 rfl⟩
    ·
     have s80 : ax.tmps.getD 80 undef = .bool false := (hdone 0 _ rfl rfl).2 _ rfl
     exact wpOp_val (v := .bool false) (w' := wx) rfl rfl (by simp [execOp, Act.eval, s80]) ⟨_, rfl, tab_put rfl hs rfl rfl, hS.same 1 rfl⟩
  intro a12 w12 fl d12 z12 rest12 R12 hfl hS
  obtain ⟨B12, n12, hBs, hAs, hPs⟩ := hS.finish hfl rfl
  replace d12 := d12.trans d11
  replace z12 := z12.trans z11
  obtain ⟨⟨-, b_g1_12⟩, ⟨-, b_g2_12⟩, ⟨-, b_g3_12⟩, ⟨-, b_g4_12⟩, ⟨-, b_g5_12⟩, -⟩ := hBs
  have s5_12 := (rest12 5 (not_of (by kernel_rfl))).trans s5_11
  have s6_12 := (rest12 6 (not_of (by kernel_rfl))).trans s6_11
  have s7_12 := (rest12 7 (not_of (by kernel_rfl))).trans s7_11
  have s8_12 := (rest12 8 (not_of (by kernel_rfl))).trans s8_11
  have s9_12 := (rest12 9 (not_of (by kernel_rfl))).trans s9_11
  have s25_12 := (rest12 25 (not_of (by kernel_rfl))).trans s25_11
  have s79_12 : a12.tmps.getD 79 undef = .bool false := R12 1 _ rfl
  clear R12 rest12 hS hfl hPs hAs
  clear s5_11 s6_11 s7_11 s8_11 s9_11 s25_11 s73_11 b_g1_11 b_g2_11 b_g3_11 b_g4_11 b_g5_11 d11 z11
  refine wp_cond_false (show a12.tmps.getD 79 undef = .bool false from s79_12) ?_
  refine wp_seq ?_
  cases fk12 : cc == 8
  case true =>
   have Ffk12 := Lib.hid fk12; clear fk12
   refine wp_regx (SX W w12.heap.size [⟨g1, 60, (cR a b c d), none, #[]⟩, ⟨g2, 60, (cR p q r t), none, #[]⟩, ⟨g3, 60, (cR 0 0 0 0), none, #[]⟩, ⟨g4, 95, (cU a b), none, #[]⟩, ⟨g5, 99, (cS c d), none, #[]⟩] []) (TabX [fun vx => vx = .bool true, fun vx => vx = .bool true]) (by kernel_rfl) (back_of (by kernel_rfl)) (dst_of (by kernel_rfl)) (in_ofz (by kernel_rfl) z12) (fun fl w1 hfl hw => SX.start' hw B12 hfl rfl ⟨b_g1_12, b_g2_12, b_g3_12, b_g4_12, b_g5_12, trivial⟩) ?h45 ?_
   case h45 =>
     intro ix ox ax wx fl ho hS hfi clo hsz hrest hdone hund
     have t25 := (hrest 25 (not_of (by kernel_rfl))).trans s25_12
     have hs : ax.tmps.size = 105 := hsz.trans z12
     have hi : ix < 2 := (Array.getElem?_eq_some_iff.1 ho).1
     clear hrest hsz hund
     obtain rfl | rfl : ix = 0 ∨ ix = 1 := by omega
     all_goals obtain rfl := Option.some.inj (show some _ = some ox from ho)
     ·
      exact wpOp_val (v := .bool (cc == 8)) (w' := wx) rfl rfl (by (simp [execOp, Act.eval, t25, go_sem]; try (simp only [IntKind.wrap_i64, wrap64]))) ⟨_, rfl, tab_put rfl hs rfl (congrArg Value.bool Ffk12.out), hS.same 0 rfl⟩
     ·
      have s86 : ax.tmps.getD 86 undef = .bool true := (hdone 0 _ rfl rfl).2 _ rfl
      exact wpOp_val (v := .bool true) (w' := wx) rfl rfl (by simp [execOp, Act.eval, s86]) ⟨_, rfl, tab_put rfl hs rfl rfl, hS.same 1 rfl⟩
   intro a13 w13 fl d13 z13 rest13 R13 hfl hS
   obtain ⟨B13, n13, hBs, hAs, hPs⟩ := hS.finish hfl rfl
   replace d13 := d13.trans d12
   replace z13 := z13.trans z12
   obtain ⟨⟨-, b_g1_13⟩, ⟨-, b_g2_13⟩, ⟨-, b_g3_13⟩, ⟨-, b_g4_13⟩, ⟨-, b_g5_13⟩, -⟩ := hBs
   have s5_13 := (rest13 5 (not_of (by kernel_rfl))).trans s5_12
   have s6_13 := (rest13 6 (not_of (by kernel_rfl))).trans s6_12
   have s7_13 := (rest13 7 (not_of (by kernel_rfl))).trans s7_12
   have s8_13 := (rest13 8 (not_of (by kernel_rfl))).trans s8_12
   have s9_13 := (rest13 9 (not_of (by kernel_rfl))).trans s9_12
   have s25_13 := (rest13 25 (not_of (by kernel_rfl))).trans s25_12
   have s85_13 : a13.tmps.getD 85 undef = .bool true := R13 1 _ rfl
   clear R13 rest13 hS hfl hPs hAs
   clear s5_12 s6_12 s7_12 s8_12 s9_12 s25_12 s79_12 b_g1_12 b_g2_12 b_g3_12 b_g4_12 b_g5_12 d12 z12
   refine wp_cond_true (show a13.tmps.getD 85 undef = .bool true from s85_13) ?_
   refine wp_regx (SX W w13.heap.size [⟨g1, 60, (cR a b c d), none, #[]⟩, ⟨g2, 60, (cR p q r t), none, #[]⟩, ⟨g3, 60, (cR 0 0 0 0), none, #[]⟩, ⟨g4, 95, (cU a b), none, #[]⟩, ⟨g5, 99, (cS c d), some 4, (cS ((Pr.below ⟨c, d⟩ ⟨r, t⟩).lo) ((Pr.below ⟨c, d⟩ ⟨r, t⟩).hi))⟩] []) (TabX [fun vx => vx = .agg #[.int .i64 c, .int .i64 d], fun vx => vx = .agg #[.int .u64 p, .int .u64 q, .int .i64 r, .int .i64 t], fun vx => vx = .agg #[.int .i64 r, .int .i64 t], fun vx => vx = .agg #[.int .i64 ((Pr.below ⟨c, d⟩ ⟨r, t⟩).lo), .int .i64 ((Pr.below ⟨c, d⟩ ⟨r, t⟩).hi)], fun _ => True]) (by kernel_rfl) (back_of (by kernel_rfl)) (dst_of (by kernel_rfl)) (in_ofz (by kernel_rfl) z13) (fun fl w1 hfl hw => SX.start' hw B13 hfl rfl ⟨b_g1_13, b_g2_13, b_g3_13, b_g4_13, b_g5_13, trivial⟩) ?h46 ?_
   case h46 =>
     intro ix ox ax wx fl ho hS hfi clo hsz hrest hdone hund
     have t5 := (hrest 5 (not_of (by kernel_rfl))).trans s5_13
     have t9 := (hrest 9 (not_of (by kernel_rfl))).trans s9_13
     have hs : ax.tmps.size = 105 := hsz.trans z13
     have hi : ix < 5 := (Array.getElem?_eq_some_iff.1 ho).1
     clear hrest hsz hund
     obtain rfl | rfl | rfl | rfl | rfl : ix = 0 ∨ ix = 1 ∨ ix = 2 ∨ ix = 3 ∨ ix = 4 := by omega
     all_goals obtain rfl := Option.some.inj (show some _ = some ox from ho)
     ·
      have hr := hS.rowFi 4 rfl (not_yet clo hfi (by kernel_rfl))
      exact wpOp_val (v := .agg #[.int .i64 c, .int .i64 d]) (w' := wx) rfl rfl (exec_loadR 99 _ rfl g5 0 (show ax.eval (.tmp 9) = .pointer (some ⟨g5, 0, none⟩) from t9) hr [.int .i64 c, .int .i64 d] rfl _ Try.underlying99 rfl (by kernel_rfl)) ⟨_, rfl, tab_put rfl hs rfl rfl, hS.same 0 rfl⟩
     ·
      have hr := hS.rowNi 1 rfl
      exact wpOp_val (v := .agg #[.int .u64 p, .int .u64 q, .int .i64 r, .int .i64 t]) (w' := wx) rfl rfl (exec_loadR 60 _ rfl g2 0 (show ax.eval (.tmp 5) = .pointer (some ⟨g2, 0, none⟩) from t5) hr [.int .u64 p, .int .u64 q, .int .i64 r, .int .i64 t] rfl _ Try.underlying60 rfl (by kernel_rfl)) ⟨_, rfl, tab_put rfl hs rfl rfl, hS.same 1 rfl⟩
     ·
      have s88 : ax.tmps.getD 88 undef = .agg #[.int .u64 p, .int .u64 q, .int .i64 r, .int .i64 t] := (hdone 0 _ rfl rfl).2 _ rfl
      refine wpOp_call (args := #[.agg #[.int .u64 p, .int .u64 q, .int .i64 r, .int .i64 t]]) rfl rfl (exec_call rfl rfl rfl (args1 (show ax.eval (.tmp 88) = .agg #[.int .u64 p, .int .u64 q, .int .i64 r, .int .i64 t] from s88)) Try.func63 (by decide +kernel) rfl) ?_
      · refine (signed_n p q r t wx).mono ?_
        rintro e w' ⟨rfl, b9⟩
        exact ⟨_, rfl, _, rfl, tab_put rfl hs rfl rfl, hS.quiet 2 rfl b9⟩
     ·
      have s87 : ax.tmps.getD 87 undef = .agg #[.int .i64 c, .int .i64 d] := (hdone 0 _ rfl rfl).2 _ rfl
      have s89 : ax.tmps.getD 89 undef = .agg #[.int .i64 r, .int .i64 t] := (hdone 1 _ rfl rfl).2 _ rfl
      refine wpOp_call (args := #[.agg #[.int .i64 c, .int .i64 d], .agg #[.int .i64 r, .int .i64 t]]) rfl rfl (exec_call rfl rfl rfl (args2 (show ax.eval (.tmp 87) = .agg #[.int .i64 c, .int .i64 d] from s87) (show ax.eval (.tmp 89) = .agg #[.int .i64 r, .int .i64 t] from s89)) Try.func73 (by decide +kernel) rfl) ?_
      · refine (belowS_n c d r t wx HA.out.2 HB.out.2).mono ?_
        rintro e w' ⟨rfl, b9⟩
        exact ⟨_, rfl, _, rfl, tab_put rfl hs rfl rfl, hS.quiet 3 rfl b9⟩
     ·
      have s90 : ax.tmps.getD 90 undef = .agg #[.int .i64 ((Pr.below ⟨c, d⟩ ⟨r, t⟩).lo), .int .i64 ((Pr.below ⟨c, d⟩ ⟨r, t⟩).hi)] := (hdone 0 _ rfl rfl).2 _ rfl
      have hr := hS.rowFi 4 rfl hfi
      exact wpOp_skp (w' := wx.setRow g5 #[.int .i64 ((Pr.below ⟨c, d⟩ ⟨r, t⟩).lo), .int .i64 ((Pr.below ⟨c, d⟩ ⟨r, t⟩).hi)]) rfl rfl (exec_storeR 99 _ _ rfl g5 #[.int .i64 ((Pr.below ⟨c, d⟩ ⟨r, t⟩).lo), .int .i64 ((Pr.below ⟨c, d⟩ ⟨r, t⟩).hi)] (show ax.eval (.tmp 9) = .pointer (some ⟨g5, 0, none⟩) from t9) (show ax.eval (.tmp 90) = .agg #[.int .i64 ((Pr.below ⟨c, d⟩ ⟨r, t⟩).lo), .int .i64 ((Pr.below ⟨c, d⟩ ⟨r, t⟩).hi)] from s90) hr (by kernel_rfl) rfl (by simp [Value.oneCell'])) ⟨undef, rfl, trivial, hS.storeBi 4 4 rfl q_g5 rfl ⟨(show g1 ≠ g5 by omega), (show g2 ≠ g5 by omega), (show g3 ≠ g5 by omega), (show g4 ≠ g5 by omega), trivial⟩ (stored_setRow wx g5 _ _ _ hr)⟩
   intro a14 w14 fl d14 z14 rest14 R14 hfl hS
   obtain ⟨B14, n14, hBs, hAs, hPs⟩ := hS.finish hfl rfl
   replace d14 := d14.trans d13
   replace z14 := z14.trans z13
   obtain ⟨⟨-, b_g1_14⟩, ⟨-, b_g2_14⟩, ⟨-, b_g3_14⟩, ⟨-, b_g4_14⟩, ⟨-, b_g5_14⟩, -⟩ := hBs
   have s6_14 := (rest14 6 (not_of (by kernel_rfl))).trans s6_13
   have s7_14 := (rest14 7 (not_of (by kernel_rfl))).trans s7_13
   have s8_14 := (rest14 8 (not_of (by kernel_rfl))).trans s8_13
   have s9_14 := (rest14 9 (not_of (by kernel_rfl))).trans s9_13
   clear R14 rest14 hS hfl hPs hAs
   clear s5_13 s6_13 s7_13 s8_13 s9_13 s25_13 s85_13 b_g1_13 b_g2_13 b_g3_13 b_g4_13 b_g5_13 d13 z13
   refine wp_seq ?_
   refine wp_regx (SX W w14.heap.size [⟨g1, 60, (cR a b c d), none, #[]⟩, ⟨g2, 60, (cR p q r t), none, #[]⟩, ⟨g3, 60, (cR 0 0 0 0), some 6, (cR ((Rg.nar ⟨⟨a, b⟩, Pr.below ⟨c, d⟩ ⟨r, t⟩⟩).u.lo) ((Rg.nar ⟨⟨a, b⟩, Pr.below ⟨c, d⟩ ⟨r, t⟩⟩).u.hi) ((Rg.nar ⟨⟨a, b⟩, Pr.below ⟨c, d⟩ ⟨r, t⟩⟩).s.lo) ((Rg.nar ⟨⟨a, b⟩, Pr.below ⟨c, d⟩ ⟨r, t⟩⟩).s.hi))⟩, ⟨g4, 95, (cU a b), none, #[]⟩, ⟨g5, 99, (cS ((Pr.below ⟨c, d⟩ ⟨r, t⟩).lo) ((Pr.below ⟨c, d⟩ ⟨r, t⟩).hi)), none, #[]⟩] []) (TabX [fun vx => vx = .agg #[.int .u64 a, .int .u64 b], fun vx => vx = .agg #[.int .i64 ((Pr.below ⟨c, d⟩ ⟨r, t⟩).lo), .int .i64 ((Pr.below ⟨c, d⟩ ⟨r, t⟩).hi)], fun vx => vx = .agg #[.int .u64 a, .int .u64 b, .int .i64 ((Pr.below ⟨c, d⟩ ⟨r, t⟩).lo), .int .i64 ((Pr.below ⟨c, d⟩ ⟨r, t⟩).hi)], fun vx => vx = .tuple #[.agg #[.int .u64 ((Rg.nar ⟨⟨a, b⟩, Pr.below ⟨c, d⟩ ⟨r, t⟩⟩).u.lo), .int .u64 ((Rg.nar ⟨⟨a, b⟩, Pr.below ⟨c, d⟩ ⟨r, t⟩⟩).u.hi), .int .i64 ((Rg.nar ⟨⟨a, b⟩, Pr.below ⟨c, d⟩ ⟨r, t⟩⟩).s.lo), .int .i64 ((Rg.nar ⟨⟨a, b⟩, Pr.below ⟨c, d⟩ ⟨r, t⟩⟩).s.hi)], .bool (Rg.narB ⟨⟨a, b⟩, Pr.below ⟨c, d⟩ ⟨r, t⟩⟩)], fun vx => vx = .agg #[.int .u64 ((Rg.nar ⟨⟨a, b⟩, Pr.below ⟨c, d⟩ ⟨r, t⟩⟩).u.lo), .int .u64 ((Rg.nar ⟨⟨a, b⟩, Pr.below ⟨c, d⟩ ⟨r, t⟩⟩).u.hi), .int .i64 ((Rg.nar ⟨⟨a, b⟩, Pr.below ⟨c, d⟩ ⟨r, t⟩⟩).s.lo), .int .i64 ((Rg.nar ⟨⟨a, b⟩, Pr.below ⟨c, d⟩ ⟨r, t⟩⟩).s.hi)], fun vx => vx = .bool (Rg.narB ⟨⟨a, b⟩, Pr.below ⟨c, d⟩ ⟨r, t⟩⟩), fun _ => True, fun vx => vx = .bool (Rg.narB ⟨⟨a, b⟩, Pr.below ⟨c, d⟩ ⟨r, t⟩⟩)]) (by kernel_rfl) (back_of (by kernel_rfl)) (dst_of (by kernel_rfl)) (in_ofz (by kernel_rfl) z14) (fun fl w1 hfl hw => SX.start' hw B14 hfl rfl ⟨b_g1_14, b_g2_14, b_g3_14, b_g4_14, b_g5_14, trivial⟩) ?h47 ?_
   case h47 =>
     intro ix ox ax wx fl ho hS hfi clo hsz hrest hdone hund
     have t6 := (hrest 6 (not_of (by kernel_rfl))).trans s6_14
     have t8 := (hrest 8 (not_of (by kernel_rfl))).trans s8_14
     have t9 := (hrest 9 (not_of (by kernel_rfl))).trans s9_14
     have hs : ax.tmps.size = 105 := hsz.trans z14
     have hi : ix < 8 := (Array.getElem?_eq_some_iff.1 ho).1
     clear hrest hsz hund
     obtain rfl | rfl | rfl | rfl | rfl | rfl | rfl | rfl : ix = 0 ∨ ix = 1 ∨ ix = 2 ∨ ix = 3 ∨ ix = 4 ∨ ix = 5 ∨ ix = 6 ∨ ix = 7 := by omega
     all_goals obtain rfl := Option.some.inj (show some _ = some ox from ho)
     ·
      have hr := hS.rowNi 3 rfl
      exact wpOp_val (v := .agg #[.int .u64 a, .int .u64 b]) (w' := wx) rfl rfl (exec_loadR 95 _ rfl g4 0 (show ax.eval (.tmp 8) = .pointer (some ⟨g4, 0, none⟩) from t8) hr [.int .u64 a, .int .u64 b] rfl _ Try.underlying95 rfl (by kernel_rfl)) ⟨_, rfl, tab_put rfl hs rfl rfl, hS.same 0 rfl⟩
     ·
      have hr := hS.rowNi 4 rfl
      exact wpOp_val (v := .agg #[.int .i64 ((Pr.below ⟨c, d⟩ ⟨r, t⟩).lo), .int .i64 ((Pr.below ⟨c, d⟩ ⟨r, t⟩).hi)]) (w' := wx) rfl rfl (exec_loadR 99 _ rfl g5 0 (show ax.eval (.tmp 9) = .pointer (some ⟨g5, 0, none⟩) from t9) hr [.int .i64 ((Pr.below ⟨c, d⟩ ⟨r, t⟩).lo), .int .i64 ((Pr.below ⟨c, d⟩ ⟨r, t⟩).hi)] rfl _ Try.underlying99 rfl (by kernel_rfl)) ⟨_, rfl, tab_put rfl hs rfl rfl, hS.same 1 rfl⟩
     ·
      have s99 : ax.tmps.getD 99 undef = .agg #[.int .u64 a, .int .u64 b] := (hdone 0 _ rfl rfl).2 _ rfl
      have s100 : ax.tmps.getD 100 undef = .agg #[.int .i64 ((Pr.below ⟨c, d⟩ ⟨r, t⟩).lo), .int .i64 ((Pr.below ⟨c, d⟩ ⟨r, t⟩).hi)] := (hdone 1 _ rfl rfl).2 _ rfl
      refine wpOp_call (args := #[.agg #[.int .u64 a, .int .u64 b], .agg #[.int .i64 ((Pr.below ⟨c, d⟩ ⟨r, t⟩).lo), .int .i64 ((Pr.below ⟨c, d⟩ ⟨r, t⟩).hi)]]) rfl rfl (exec_call rfl rfl rfl (args2 (show ax.eval (.tmp 99) = .agg #[.int .u64 a, .int .u64 b] from s99) (show ax.eval (.tmp 100) = .agg #[.int .i64 ((Pr.below ⟨c, d⟩ ⟨r, t⟩).lo), .int .i64 ((Pr.below ⟨c, d⟩ ⟨r, t⟩).hi)] from s100)) Try.func60 (by decide +kernel) rfl) ?_
      · refine (both_n a b ((Pr.below ⟨c, d⟩ ⟨r, t⟩).lo) ((Pr.below ⟨c, d⟩ ⟨r, t⟩).hi) wx).mono ?_
        rintro e w' ⟨rfl, b9⟩
        exact ⟨_, rfl, _, rfl, tab_put rfl hs rfl rfl, hS.quiet 2 rfl b9⟩
     ·
      have s101 : ax.tmps.getD 101 undef = .agg #[.int .u64 a, .int .u64 b, .int .i64 ((Pr.below ⟨c, d⟩ ⟨r, t⟩).lo), .int .i64 ((Pr.below ⟨c, d⟩ ⟨r, t⟩).hi)] := (hdone 0 _ rfl rfl).2 _ rfl
      refine wpOp_call (args := #[.agg #[.int .u64 a, .int .u64 b, .int .i64 ((Pr.below ⟨c, d⟩ ⟨r, t⟩).lo), .int .i64 ((Pr.below ⟨c, d⟩ ⟨r, t⟩).hi)]]) rfl rfl (exec_call rfl rfl rfl (args1 (show ax.eval (.tmp 101) = .agg #[.int .u64 a, .int .u64 b, .int .i64 ((Pr.below ⟨c, d⟩ ⟨r, t⟩).lo), .int .i64 ((Pr.below ⟨c, d⟩ ⟨r, t⟩).hi)] from s101)) Try.func28 (by decide +kernel) rfl) ?_
      · refine (narrow_n a b ((Pr.below ⟨c, d⟩ ⟨r, t⟩).lo) ((Pr.below ⟨c, d⟩ ⟨r, t⟩).hi) wx (by have hh := (giv_ok cc (a := ⟨⟨a, b⟩, ⟨c, d⟩⟩) (b := ⟨⟨p, q⟩, ⟨r, t⟩⟩) HA.out HB.out Ffk1.out); unfold givC at hh; simp only [if_neg (nb Ffk3.out), if_neg (nb Ffk4.out), if_neg (nb Ffk6.out), if_neg (nb Ffk7.out), if_neg (nb Ffk8.out), if_neg (nb Ffk9.out), if_neg (nb Ffk10.out), if_neg (nb Ffk11.out), if_pos (yb Ffk12.out)] at hh; exact hh)).mono ?_
        rintro e w' ⟨rfl, b9⟩
        exact ⟨_, rfl, _, rfl, tab_put rfl hs rfl rfl, hS.quiet 3 rfl b9⟩
     ·
      have s102 : ax.tmps.getD 102 undef = .tuple #[.agg #[.int .u64 ((Rg.nar ⟨⟨a, b⟩, Pr.below ⟨c, d⟩ ⟨r, t⟩⟩).u.lo), .int .u64 ((Rg.nar ⟨⟨a, b⟩, Pr.below ⟨c, d⟩ ⟨r, t⟩⟩).u.hi), .int .i64 ((Rg.nar ⟨⟨a, b⟩, Pr.below ⟨c, d⟩ ⟨r, t⟩⟩).s.lo), .int .i64 ((Rg.nar ⟨⟨a, b⟩, Pr.below ⟨c, d⟩ ⟨r, t⟩⟩).s.hi)], .bool (Rg.narB ⟨⟨a, b⟩, Pr.below ⟨c, d⟩ ⟨r, t⟩⟩)] := (hdone 0 _ rfl rfl).2 _ rfl
      exact wpOp_val (v := .agg #[.int .u64 ((Rg.nar ⟨⟨a, b⟩, Pr.below ⟨c, d⟩ ⟨r, t⟩⟩).u.lo), .int .u64 ((Rg.nar ⟨⟨a, b⟩, Pr.below ⟨c, d⟩ ⟨r, t⟩⟩).u.hi), .int .i64 ((Rg.nar ⟨⟨a, b⟩, Pr.below ⟨c, d⟩ ⟨r, t⟩⟩).s.lo), .int .i64 ((Rg.nar ⟨⟨a, b⟩, Pr.below ⟨c, d⟩ ⟨r, t⟩⟩).s.hi)]) (w' := wx) rfl rfl (by simp [execOp, Act.eval, s102, go_sem]) ⟨_, rfl, tab_put rfl hs rfl rfl, hS.same 4 rfl⟩
     ·
      have s102 : ax.tmps.getD 102 undef = .tuple #[.agg #[.int .u64 ((Rg.nar ⟨⟨a, b⟩, Pr.below ⟨c, d⟩ ⟨r, t⟩⟩).u.lo), .int .u64 ((Rg.nar ⟨⟨a, b⟩, Pr.below ⟨c, d⟩ ⟨r, t⟩⟩).u.hi), .int .i64 ((Rg.nar ⟨⟨a, b⟩, Pr.below ⟨c, d⟩ ⟨r, t⟩⟩).s.lo), .int .i64 ((Rg.nar ⟨⟨a, b⟩, Pr.below ⟨c, d⟩ ⟨r, t⟩⟩).s.hi)], .bool (Rg.narB ⟨⟨a, b⟩, Pr.below ⟨c, d⟩ ⟨r, t⟩⟩)] := (hdone 0 _ rfl rfl).2 _ rfl
      exact wpOp_val (v := .bool (Rg.narB ⟨⟨a, b⟩, Pr.below ⟨c, d⟩ ⟨r, t⟩⟩)) (w' := wx) rfl rfl (by simp [execOp, Act.eval, s102, go_sem]) ⟨_, rfl, tab_put rfl hs rfl rfl, hS.same 5 rfl⟩
     ·
      have s103 : ax.tmps.getD 103 undef = .agg #[.int .u64 ((Rg.nar ⟨⟨a, b⟩, Pr.below ⟨c, d⟩ ⟨r, t⟩⟩).u.lo), .int .u64 ((Rg.nar ⟨⟨a, b⟩, Pr.below ⟨c, d⟩ ⟨r, t⟩⟩).u.hi), .int .i64 ((Rg.nar ⟨⟨a, b⟩, Pr.below ⟨c, d⟩ ⟨r, t⟩⟩).s.lo), .int .i64 ((Rg.nar ⟨⟨a, b⟩, Pr.below ⟨c, d⟩ ⟨r, t⟩⟩).s.hi)] := (hdone 0 _ rfl rfl).2 _ rfl
      have hr := hS.rowFi 2 rfl hfi
      exact wpOp_skp (w' := wx.setRow g3 #[.int .u64 ((Rg.nar ⟨⟨a, b⟩, Pr.below ⟨c, d⟩ ⟨r, t⟩⟩).u.lo), .int .u64 ((Rg.nar ⟨⟨a, b⟩, Pr.below ⟨c, d⟩ ⟨r, t⟩⟩).u.hi), .int .i64 ((Rg.nar ⟨⟨a, b⟩, Pr.below ⟨c, d⟩ ⟨r, t⟩⟩).s.lo), .int .i64 ((Rg.nar ⟨⟨a, b⟩, Pr.below ⟨c, d⟩ ⟨r, t⟩⟩).s.hi)]) rfl rfl (exec_storeR 60 _ _ rfl g3 #[.int .u64 ((Rg.nar ⟨⟨a, b⟩, Pr.below ⟨c, d⟩ ⟨r, t⟩⟩).u.lo), .int .u64 ((Rg.nar ⟨⟨a, b⟩, Pr.below ⟨c, d⟩ ⟨r, t⟩⟩).u.hi), .int .i64 ((Rg.nar ⟨⟨a, b⟩, Pr.below ⟨c, d⟩ ⟨r, t⟩⟩).s.lo), .int .i64 ((Rg.nar ⟨⟨a, b⟩, Pr.below ⟨c, d⟩ ⟨r, t⟩⟩).s.hi)] (show ax.eval (.tmp 6) = .pointer (some ⟨g3, 0, none⟩) from t6) (show ax.eval (.tmp 103) = .agg #[.int .u64 ((Rg.nar ⟨⟨a, b⟩, Pr.below ⟨c, d⟩ ⟨r, t⟩⟩).u.lo), .int .u64 ((Rg.nar ⟨⟨a, b⟩, Pr.below ⟨c, d⟩ ⟨r, t⟩⟩).u.hi), .int .i64 ((Rg.nar ⟨⟨a, b⟩, Pr.below ⟨c, d⟩ ⟨r, t⟩⟩).s.lo), .int .i64 ((Rg.nar ⟨⟨a, b⟩, Pr.below ⟨c, d⟩ ⟨r, t⟩⟩).s.hi)] from s103) hr (by kernel_rfl) rfl (by simp [Value.oneCell'])) ⟨undef, rfl, trivial, hS.storeBi 6 2 rfl q_g3 rfl ⟨(show g1 ≠ g3 by omega), (show g2 ≠ g3 by omega), (show g4 ≠ g3 by omega), (show g5 ≠ g3 by omega), trivial⟩ (stored_setRow wx g3 _ _ _ hr)⟩
     ·
      have s104 : ax.tmps.getD 104 undef = .bool (Rg.narB ⟨⟨a, b⟩, Pr.below ⟨c, d⟩ ⟨r, t⟩⟩) := (hdone 0 _ rfl rfl).2 _ rfl
      exact wpOp_val (v := .bool (Rg.narB ⟨⟨a, b⟩, Pr.below ⟨c, d⟩ ⟨r, t⟩⟩)) (w' := wx) rfl rfl (by simp [execOp, Act.eval, s104]) ⟨_, rfl, tab_put rfl hs rfl rfl, hS.same 7 rfl⟩
   intro a15 w15 fl d15 z15 rest15 R15 hfl hS
   obtain ⟨B15, n15, hBs, hAs, hPs⟩ := hS.finish hfl rfl
   replace d15 := d15.trans d14
   replace z15 := z15.trans z14
   obtain ⟨⟨-, b_g1_15⟩, ⟨-, b_g2_15⟩, ⟨-, b_g3_15⟩, ⟨-, b_g4_15⟩, ⟨-, b_g5_15⟩, -⟩ := hBs
   have s6_15 := (rest15 6 (not_of (by kernel_rfl))).trans s6_14
   have s7_15 : a15.tmps.getD 7 undef = .bool (Rg.narB ⟨⟨a, b⟩, Pr.below ⟨c, d⟩ ⟨r, t⟩⟩) := R15 7 _ rfl
   clear R15 rest15 hS hfl hPs hAs
   clear s6_14 s7_14 s8_14 s9_14 b_g1_14 b_g2_14 b_g3_14 b_g4_14 b_g5_14 d14 z14
   refine wp_ret ?_
   try simp only [Exit.inBlock, Exit.then]
   refine bodyPost_ret (res_ct (fn := Try.f24) rfl s6_15 (load_row 60 b_g3_15 Try.underlying60 rfl (by kernel_rfl)) s7_15) d15 ?_
   have no0 := nb Ffk3.out
   have no1 := nb Ffk4.out
   have no2 := nb Ffk6.out
   have no3 := nb Ffk7.out
   have no4 := nb Ffk8.out
   have no5 := nb Ffk9.out
   have no6 := nb Ffk10.out
   have no7 := nb Ffk11.out
   have ho : cc = 8 := yb Ffk12.out
   have hk : ccOk cc = true := by rw [ho]; rfl
   have HD : givC cc ⟨⟨a, b⟩, ⟨c, d⟩⟩ ⟨⟨p, q⟩, ⟨r, t⟩⟩ = ⟨⟨a, b⟩, Pr.below ⟨c, d⟩ ⟨r, t⟩⟩ := by
     unfold givC
     simp only [if_neg no0, if_neg no1, if_neg no2, if_neg no3, if_neg no4, if_neg no5, if_neg no6, if_neg no7, if_pos ho]
     try rfl
   have HE : Value.tuple #[.agg #[.int .u64 ((Rg.nar ⟨⟨a, b⟩, Pr.below ⟨c, d⟩ ⟨r, t⟩⟩).u.lo), .int .u64 ((Rg.nar ⟨⟨a, b⟩, Pr.below ⟨c, d⟩ ⟨r, t⟩⟩).u.hi), .int .i64 ((Rg.nar ⟨⟨a, b⟩, Pr.below ⟨c, d⟩ ⟨r, t⟩⟩).s.lo), .int .i64 ((Rg.nar ⟨⟨a, b⟩, Pr.below ⟨c, d⟩ ⟨r, t⟩⟩).s.hi)], .bool (Rg.narB ⟨⟨a, b⟩, Pr.below ⟨c, d⟩ ⟨r, t⟩⟩)] = .tuple #[Rg.val (Rg.giv cc ⟨⟨a, b⟩, ⟨c, d⟩⟩ ⟨⟨p, q⟩, ⟨r, t⟩⟩), .bool (Rg.givB cc ⟨⟨a, b⟩, ⟨c, d⟩⟩ ⟨⟨p, q⟩, ⟨r, t⟩⟩)] := by unfold Rg.giv Rg.givB; rw [Ffk1.out, Ffk2.out, hk, if_pos (by rfl), HD]; rfl
   exact ⟨retV HE, B15⟩
  have Ffk12 := Lib.hid fk12; clear fk12
  refine wp_regx (SX W w12.heap.size [⟨g1, 60, (cR a b c d), none, #[]⟩, ⟨g2, 60, (cR p q r t), none, #[]⟩, ⟨g3, 60, (cR 0 0 0 0), none, #[]⟩, ⟨g4, 95, (cU a b), none, #[]⟩, ⟨g5, 99, (cS c d), none, #[]⟩] []) (TabX [fun vx => vx = .bool false, fun vx => vx = .bool false]) (by kernel_rfl) (back_of (by kernel_rfl)) (dst_of (by kernel_rfl)) (in_ofz (by kernel_rfl) z12) (fun fl w1 hfl hw => SX.start' hw B12 hfl rfl ⟨b_g1_12, b_g2_12, b_g3_12, b_g4_12, b_g5_12, trivial⟩) ?h48 ?_
  case h48 =>
    intro ix ox ax wx fl ho hS hfi clo hsz hrest hdone hund
    have t25 := (hrest 25 (not_of (by kernel_rfl))).trans s25_12
    have hs : ax.tmps.size = 105 := hsz.trans z12
    have hi : ix < 2 := (Array.getElem?_eq_some_iff.1 ho).1
    clear hrest hsz hund
    obtain rfl | rfl : ix = 0 ∨ ix = 1 := by omega
    all_goals obtain rfl := Option.some.inj (show some _ = some ox from ho)
    ·
     exact wpOp_val (v := .bool (cc == 8)) (w' := wx) rfl rfl (by (simp [execOp, Act.eval, t25, go_sem]; try (simp only [IntKind.wrap_i64, wrap64]))) ⟨_, rfl, tab_put rfl hs rfl (congrArg Value.bool Ffk12.out), hS.same 0 rfl⟩
    ·
     have s86 : ax.tmps.getD 86 undef = .bool false := (hdone 0 _ rfl rfl).2 _ rfl
     exact wpOp_val (v := .bool false) (w' := wx) rfl rfl (by simp [execOp, Act.eval, s86]) ⟨_, rfl, tab_put rfl hs rfl rfl, hS.same 1 rfl⟩
  intro a13 w13 fl d13 z13 rest13 R13 hfl hS
  obtain ⟨B13, n13, hBs, hAs, hPs⟩ := hS.finish hfl rfl
  replace d13 := d13.trans d12
  replace z13 := z13.trans z12
  obtain ⟨⟨-, b_g1_13⟩, ⟨-, b_g2_13⟩, ⟨-, b_g3_13⟩, ⟨-, b_g4_13⟩, ⟨-, b_g5_13⟩, -⟩ := hBs
  have s5_13 := (rest13 5 (not_of (by kernel_rfl))).trans s5_12
  have s6_13 := (rest13 6 (not_of (by kernel_rfl))).trans s6_12
  have s7_13 := (rest13 7 (not_of (by kernel_rfl))).trans s7_12
  have s8_13 := (rest13 8 (not_of (by kernel_rfl))).trans s8_12
  have s9_13 := (rest13 9 (not_of (by kernel_rfl))).trans s9_12
  have s25_13 := (rest13 25 (not_of (by kernel_rfl))).trans s25_12
  have s85_13 : a13.tmps.getD 85 undef = .bool false := R13 1 _ rfl
  clear R13 rest13 hS hfl hPs hAs
  clear s5_12 s6_12 s7_12 s8_12 s9_12 s25_12 s79_12 b_g1_12 b_g2_12 b_g3_12 b_g4_12 b_g5_12 d12 z12
  refine wp_cond_false (show a13.tmps.getD 85 undef = .bool false from s85_13) ?_
  refine wp_seq ?_
  cases fk13 : cc == 9
  case true =>
   have Ffk13 := Lib.hid fk13; clear fk13
   refine wp_regx (SX W w13.heap.size [⟨g1, 60, (cR a b c d), none, #[]⟩, ⟨g2, 60, (cR p q r t), none, #[]⟩, ⟨g3, 60, (cR 0 0 0 0), none, #[]⟩, ⟨g4, 95, (cU a b), none, #[]⟩, ⟨g5, 99, (cS c d), none, #[]⟩] []) (TabX [fun vx => vx = .bool true, fun vx => vx = .bool true]) (by kernel_rfl) (back_of (by kernel_rfl)) (dst_of (by kernel_rfl)) (in_ofz (by kernel_rfl) z13) (fun fl w1 hfl hw => SX.start' hw B13 hfl rfl ⟨b_g1_13, b_g2_13, b_g3_13, b_g4_13, b_g5_13, trivial⟩) ?h49 ?_
   case h49 =>
     intro ix ox ax wx fl ho hS hfi clo hsz hrest hdone hund
     have t25 := (hrest 25 (not_of (by kernel_rfl))).trans s25_13
     have hs : ax.tmps.size = 105 := hsz.trans z13
     have hi : ix < 2 := (Array.getElem?_eq_some_iff.1 ho).1
     clear hrest hsz hund
     obtain rfl | rfl : ix = 0 ∨ ix = 1 := by omega
     all_goals obtain rfl := Option.some.inj (show some _ = some ox from ho)
     ·
      exact wpOp_val (v := .bool (cc == 9)) (w' := wx) rfl rfl (by (simp [execOp, Act.eval, t25, go_sem]; try (simp only [IntKind.wrap_i64, wrap64]))) ⟨_, rfl, tab_put rfl hs rfl (congrArg Value.bool Ffk13.out), hS.same 0 rfl⟩
     ·
      have s92 : ax.tmps.getD 92 undef = .bool true := (hdone 0 _ rfl rfl).2 _ rfl
      exact wpOp_val (v := .bool true) (w' := wx) rfl rfl (by simp [execOp, Act.eval, s92]) ⟨_, rfl, tab_put rfl hs rfl rfl, hS.same 1 rfl⟩
   intro a14 w14 fl d14 z14 rest14 R14 hfl hS
   obtain ⟨B14, n14, hBs, hAs, hPs⟩ := hS.finish hfl rfl
   replace d14 := d14.trans d13
   replace z14 := z14.trans z13
   obtain ⟨⟨-, b_g1_14⟩, ⟨-, b_g2_14⟩, ⟨-, b_g3_14⟩, ⟨-, b_g4_14⟩, ⟨-, b_g5_14⟩, -⟩ := hBs
   have s5_14 := (rest14 5 (not_of (by kernel_rfl))).trans s5_13
   have s6_14 := (rest14 6 (not_of (by kernel_rfl))).trans s6_13
   have s7_14 := (rest14 7 (not_of (by kernel_rfl))).trans s7_13
   have s8_14 := (rest14 8 (not_of (by kernel_rfl))).trans s8_13
   have s9_14 := (rest14 9 (not_of (by kernel_rfl))).trans s9_13
   have s25_14 := (rest14 25 (not_of (by kernel_rfl))).trans s25_13
   have s91_14 : a14.tmps.getD 91 undef = .bool true := R14 1 _ rfl
   clear R14 rest14 hS hfl hPs hAs
   clear s5_13 s6_13 s7_13 s8_13 s9_13 s25_13 s85_13 b_g1_13 b_g2_13 b_g3_13 b_g4_13 b_g5_13 d13 z13
   refine wp_cond_true (show a14.tmps.getD 91 undef = .bool true from s91_14) ?_
   refine wp_regx (SX W w14.heap.size [⟨g1, 60, (cR a b c d), none, #[]⟩, ⟨g2, 60, (cR p q r t), none, #[]⟩, ⟨g3, 60, (cR 0 0 0 0), none, #[]⟩, ⟨g4, 95, (cU a b), none, #[]⟩, ⟨g5, 99, (cS c d), some 4, (cS ((Pr.atMost ⟨c, d⟩ ⟨r, t⟩).lo) ((Pr.atMost ⟨c, d⟩ ⟨r, t⟩).hi))⟩] []) (TabX [fun vx => vx = .agg #[.int .i64 c, .int .i64 d], fun vx => vx = .agg #[.int .u64 p, .int .u64 q, .int .i64 r, .int .i64 t], fun vx => vx = .agg #[.int .i64 r, .int .i64 t], fun vx => vx = .agg #[.int .i64 ((Pr.atMost ⟨c, d⟩ ⟨r, t⟩).lo), .int .i64 ((Pr.atMost ⟨c, d⟩ ⟨r, t⟩).hi)], fun _ => True]) (by kernel_rfl) (back_of (by kernel_rfl)) (dst_of (by kernel_rfl)) (in_ofz (by kernel_rfl) z14) (fun fl w1 hfl hw => SX.start' hw B14 hfl rfl ⟨b_g1_14, b_g2_14, b_g3_14, b_g4_14, b_g5_14, trivial⟩) ?h50 ?_
   case h50 =>
     intro ix ox ax wx fl ho hS hfi clo hsz hrest hdone hund
     have t5 := (hrest 5 (not_of (by kernel_rfl))).trans s5_14
     have t9 := (hrest 9 (not_of (by kernel_rfl))).trans s9_14
     have hs : ax.tmps.size = 105 := hsz.trans z14
     have hi : ix < 5 := (Array.getElem?_eq_some_iff.1 ho).1
     clear hrest hsz hund
     obtain rfl | rfl | rfl | rfl | rfl : ix = 0 ∨ ix = 1 ∨ ix = 2 ∨ ix = 3 ∨ ix = 4 := by omega
     all_goals obtain rfl := Option.some.inj (show some _ = some ox from ho)
     ·
      have hr := hS.rowFi 4 rfl (not_yet clo hfi (by kernel_rfl))
      exact wpOp_val (v := .agg #[.int .i64 c, .int .i64 d]) (w' := wx) rfl rfl (exec_loadR 99 _ rfl g5 0 (show ax.eval (.tmp 9) = .pointer (some ⟨g5, 0, none⟩) from t9) hr [.int .i64 c, .int .i64 d] rfl _ Try.underlying99 rfl (by kernel_rfl)) ⟨_, rfl, tab_put rfl hs rfl rfl, hS.same 0 rfl⟩
     ·
      have hr := hS.rowNi 1 rfl
      exact wpOp_val (v := .agg #[.int .u64 p, .int .u64 q, .int .i64 r, .int .i64 t]) (w' := wx) rfl rfl (exec_loadR 60 _ rfl g2 0 (show ax.eval (.tmp 5) = .pointer (some ⟨g2, 0, none⟩) from t5) hr [.int .u64 p, .int .u64 q, .int .i64 r, .int .i64 t] rfl _ Try.underlying60 rfl (by kernel_rfl)) ⟨_, rfl, tab_put rfl hs rfl rfl, hS.same 1 rfl⟩
     ·
      have s94 : ax.tmps.getD 94 undef = .agg #[.int .u64 p, .int .u64 q, .int .i64 r, .int .i64 t] := (hdone 0 _ rfl rfl).2 _ rfl
      refine wpOp_call (args := #[.agg #[.int .u64 p, .int .u64 q, .int .i64 r, .int .i64 t]]) rfl rfl (exec_call rfl rfl rfl (args1 (show ax.eval (.tmp 94) = .agg #[.int .u64 p, .int .u64 q, .int .i64 r, .int .i64 t] from s94)) Try.func63 (by decide +kernel) rfl) ?_
      · refine (signed_n p q r t wx).mono ?_
        rintro e w' ⟨rfl, b9⟩
        exact ⟨_, rfl, _, rfl, tab_put rfl hs rfl rfl, hS.quiet 2 rfl b9⟩
     ·
      have s93 : ax.tmps.getD 93 undef = .agg #[.int .i64 c, .int .i64 d] := (hdone 0 _ rfl rfl).2 _ rfl
      have s95 : ax.tmps.getD 95 undef = .agg #[.int .i64 r, .int .i64 t] := (hdone 1 _ rfl rfl).2 _ rfl
      refine wpOp_call (args := #[.agg #[.int .i64 c, .int .i64 d], .agg #[.int .i64 r, .int .i64 t]]) rfl rfl (exec_call rfl rfl rfl (args2 (show ax.eval (.tmp 93) = .agg #[.int .i64 c, .int .i64 d] from s93) (show ax.eval (.tmp 95) = .agg #[.int .i64 r, .int .i64 t] from s95)) Try.func74 (by decide +kernel) rfl) ?_
      · refine (atMostS_n c d r t wx).mono ?_
        rintro e w' ⟨rfl, b9⟩
        exact ⟨_, rfl, _, rfl, tab_put rfl hs rfl rfl, hS.quiet 3 rfl b9⟩
     ·
      have s96 : ax.tmps.getD 96 undef = .agg #[.int .i64 ((Pr.atMost ⟨c, d⟩ ⟨r, t⟩).lo), .int .i64 ((Pr.atMost ⟨c, d⟩ ⟨r, t⟩).hi)] := (hdone 0 _ rfl rfl).2 _ rfl
      have hr := hS.rowFi 4 rfl hfi
      exact wpOp_skp (w' := wx.setRow g5 #[.int .i64 ((Pr.atMost ⟨c, d⟩ ⟨r, t⟩).lo), .int .i64 ((Pr.atMost ⟨c, d⟩ ⟨r, t⟩).hi)]) rfl rfl (exec_storeR 99 _ _ rfl g5 #[.int .i64 ((Pr.atMost ⟨c, d⟩ ⟨r, t⟩).lo), .int .i64 ((Pr.atMost ⟨c, d⟩ ⟨r, t⟩).hi)] (show ax.eval (.tmp 9) = .pointer (some ⟨g5, 0, none⟩) from t9) (show ax.eval (.tmp 96) = .agg #[.int .i64 ((Pr.atMost ⟨c, d⟩ ⟨r, t⟩).lo), .int .i64 ((Pr.atMost ⟨c, d⟩ ⟨r, t⟩).hi)] from s96) hr (by kernel_rfl) rfl (by simp [Value.oneCell'])) ⟨undef, rfl, trivial, hS.storeBi 4 4 rfl q_g5 rfl ⟨(show g1 ≠ g5 by omega), (show g2 ≠ g5 by omega), (show g3 ≠ g5 by omega), (show g4 ≠ g5 by omega), trivial⟩ (stored_setRow wx g5 _ _ _ hr)⟩
   intro a15 w15 fl d15 z15 rest15 R15 hfl hS
   obtain ⟨B15, n15, hBs, hAs, hPs⟩ := hS.finish hfl rfl
   replace d15 := d15.trans d14
   replace z15 := z15.trans z14
   obtain ⟨⟨-, b_g1_15⟩, ⟨-, b_g2_15⟩, ⟨-, b_g3_15⟩, ⟨-, b_g4_15⟩, ⟨-, b_g5_15⟩, -⟩ := hBs
   have s6_15 := (rest15 6 (not_of (by kernel_rfl))).trans s6_14
   have s7_15 := (rest15 7 (not_of (by kernel_rfl))).trans s7_14
   have s8_15 := (rest15 8 (not_of (by kernel_rfl))).trans s8_14
   have s9_15 := (rest15 9 (not_of (by kernel_rfl))).trans s9_14
   clear R15 rest15 hS hfl hPs hAs
   clear s5_14 s6_14 s7_14 s8_14 s9_14 s25_14 s91_14 b_g1_14 b_g2_14 b_g3_14 b_g4_14 b_g5_14 d14 z14
   refine wp_seq ?_
   refine wp_regx (SX W w15.heap.size [⟨g1, 60, (cR a b c d), none, #[]⟩, ⟨g2, 60, (cR p q r t), none, #[]⟩, ⟨g3, 60, (cR 0 0 0 0), some 6, (cR ((Rg.nar ⟨⟨a, b⟩, Pr.atMost ⟨c, d⟩ ⟨r, t⟩⟩).u.lo) ((Rg.nar ⟨⟨a, b⟩, Pr.atMost ⟨c, d⟩ ⟨r, t⟩⟩).u.hi) ((Rg.nar ⟨⟨a, b⟩, Pr.atMost ⟨c, d⟩ ⟨r, t⟩⟩).s.lo) ((Rg.nar ⟨⟨a, b⟩, Pr.atMost ⟨c, d⟩ ⟨r, t⟩⟩).s.hi))⟩, ⟨g4, 95, (cU a b), none, #[]⟩, ⟨g5, 99, (cS ((Pr.atMost ⟨c, d⟩ ⟨r, t⟩).lo) ((Pr.atMost ⟨c, d⟩ ⟨r, t⟩).hi)), none, #[]⟩] []) (TabX [fun vx => vx = .agg #[.int .u64 a, .int .u64 b], fun vx => vx = .agg #[.int .i64 ((Pr.atMost ⟨c, d⟩ ⟨r, t⟩).lo), .int .i64 ((Pr.atMost ⟨c, d⟩ ⟨r, t⟩).hi)], fun vx => vx = .agg #[.int .u64 a, .int .u64 b, .int .i64 ((Pr.atMost ⟨c, d⟩ ⟨r, t⟩).lo), .int .i64 ((Pr.atMost ⟨c, d⟩ ⟨r, t⟩).hi)], fun vx => vx = .tuple #[.agg #[.int .u64 ((Rg.nar ⟨⟨a, b⟩, Pr.atMost ⟨c, d⟩ ⟨r, t⟩⟩).u.lo), .int .u64 ((Rg.nar ⟨⟨a, b⟩, Pr.atMost ⟨c, d⟩ ⟨r, t⟩⟩).u.hi), .int .i64 ((Rg.nar ⟨⟨a, b⟩, Pr.atMost ⟨c, d⟩ ⟨r, t⟩⟩).s.lo), .int .i64 ((Rg.nar ⟨⟨a, b⟩, Pr.atMost ⟨c, d⟩ ⟨r, t⟩⟩).s.hi)], .bool (Rg.narB ⟨⟨a, b⟩, Pr.atMost ⟨c, d⟩ ⟨r, t⟩⟩)], fun vx => vx = .agg #[.int .u64 ((Rg.nar ⟨⟨a, b⟩, Pr.atMost ⟨c, d⟩ ⟨r, t⟩⟩).u.lo), .int .u64 ((Rg.nar ⟨⟨a, b⟩, Pr.atMost ⟨c, d⟩ ⟨r, t⟩⟩).u.hi), .int .i64 ((Rg.nar ⟨⟨a, b⟩, Pr.atMost ⟨c, d⟩ ⟨r, t⟩⟩).s.lo), .int .i64 ((Rg.nar ⟨⟨a, b⟩, Pr.atMost ⟨c, d⟩ ⟨r, t⟩⟩).s.hi)], fun vx => vx = .bool (Rg.narB ⟨⟨a, b⟩, Pr.atMost ⟨c, d⟩ ⟨r, t⟩⟩), fun _ => True, fun vx => vx = .bool (Rg.narB ⟨⟨a, b⟩, Pr.atMost ⟨c, d⟩ ⟨r, t⟩⟩)]) (by kernel_rfl) (back_of (by kernel_rfl)) (dst_of (by kernel_rfl)) (in_ofz (by kernel_rfl) z15) (fun fl w1 hfl hw => SX.start' hw B15 hfl rfl ⟨b_g1_15, b_g2_15, b_g3_15, b_g4_15, b_g5_15, trivial⟩) ?h51 ?_
   case h51 =>
     intro ix ox ax wx fl ho hS hfi clo hsz hrest hdone hund
     have t6 := (hrest 6 (not_of (by kernel_rfl))).trans s6_15
     have t8 := (hrest 8 (not_of (by kernel_rfl))).trans s8_15
     have t9 := (hrest 9 (not_of (by kernel_rfl))).trans s9_15
     have hs : ax.tmps.size = 105 := hsz.trans z15
     have hi : ix < 8 := (Array.getElem?_eq_some_iff.1 ho).1
     clear hrest hsz hund
     obtain rfl | rfl | rfl | rfl | rfl | rfl | rfl | rfl : ix = 0 ∨ ix = 1 ∨ ix = 2 ∨ ix = 3 ∨ ix = 4 ∨ ix = 5 ∨ ix = 6 ∨ ix = 7 := by omega
     all_goals obtain rfl := Option.some.inj (show some _ = some ox from ho)
     ·
      have hr := hS.rowNi 3 rfl
      exact wpOp_val (v := .agg #[.int .u64 a, .int .u64 b]) (w' := wx) rfl rfl (exec_loadR 95 _ rfl g4 0 (show ax.eval (.tmp 8) = .pointer (some ⟨g4, 0, none⟩) from t8) hr [.int .u64 a, .int .u64 b] rfl _ Try.underlying95 rfl (by kernel_rfl)) ⟨_, rfl, tab_put rfl hs rfl rfl, hS.same 0 rfl⟩
     ·
      have hr := hS.rowNi 4 rfl
      exact wpOp_val (v := .agg #[.int .i64 ((Pr.atMost ⟨c, d⟩ ⟨r, t⟩).lo), .int .i64 ((Pr.atMost ⟨c, d⟩ ⟨r, t⟩).hi)]) (w' := wx) rfl rfl (exec_loadR 99 _ rfl g5 0 (show ax.eval (.tmp 9) = .pointer (some ⟨g5, 0, none⟩) from t9) hr [.int .i64 ((Pr.atMost ⟨c, d⟩ ⟨r, t⟩).lo), .int .i64 ((Pr.atMost ⟨c, d⟩ ⟨r, t⟩).hi)] rfl _ Try.underlying99 rfl (by kernel_rfl)) ⟨_, rfl, tab_put rfl hs rfl rfl, hS.same 1 rfl⟩
     ·
      have s99 : ax.tmps.getD 99 undef = .agg #[.int .u64 a, .int .u64 b] := (hdone 0 _ rfl rfl).2 _ rfl
      have s100 : ax.tmps.getD 100 undef = .agg #[.int .i64 ((Pr.atMost ⟨c, d⟩ ⟨r, t⟩).lo), .int .i64 ((Pr.atMost ⟨c, d⟩ ⟨r, t⟩).hi)] := (hdone 1 _ rfl rfl).2 _ rfl
      refine wpOp_call (args := #[.agg #[.int .u64 a, .int .u64 b], .agg #[.int .i64 ((Pr.atMost ⟨c, d⟩ ⟨r, t⟩).lo), .int .i64 ((Pr.atMost ⟨c, d⟩ ⟨r, t⟩).hi)]]) rfl rfl (exec_call rfl rfl rfl (args2 (show ax.eval (.tmp 99) = .agg #[.int .u64 a, .int .u64 b] from s99) (show ax.eval (.tmp 100) = .agg #[.int .i64 ((Pr.atMost ⟨c, d⟩ ⟨r, t⟩).lo), .int .i64 ((Pr.atMost ⟨c, d⟩ ⟨r, t⟩).hi)] from s100)) Try.func60 (by decide +kernel) rfl) ?_
      · refine (both_n a b ((Pr.atMost ⟨c, d⟩ ⟨r, t⟩).lo) ((Pr.atMost ⟨c, d⟩ ⟨r, t⟩).hi) wx).mono ?_
        rintro e w' ⟨rfl, b9⟩
        exact ⟨_, rfl, _, rfl, tab_put rfl hs rfl rfl, hS.quiet 2 rfl b9⟩
     ·
      have s101 : ax.tmps.getD 101 undef = .agg #[.int .u64 a, .int .u64 b, .int .i64 ((Pr.atMost ⟨c, d⟩ ⟨r, t⟩).lo), .int .i64 ((Pr.atMost ⟨c, d⟩ ⟨r, t⟩).hi)] := (hdone 0 _ rfl rfl).2 _ rfl
      refine wpOp_call (args := #[.agg #[.int .u64 a, .int .u64 b, .int .i64 ((Pr.atMost ⟨c, d⟩ ⟨r, t⟩).lo), .int .i64 ((Pr.atMost ⟨c, d⟩ ⟨r, t⟩).hi)]]) rfl rfl (exec_call rfl rfl rfl (args1 (show ax.eval (.tmp 101) = .agg #[.int .u64 a, .int .u64 b, .int .i64 ((Pr.atMost ⟨c, d⟩ ⟨r, t⟩).lo), .int .i64 ((Pr.atMost ⟨c, d⟩ ⟨r, t⟩).hi)] from s101)) Try.func28 (by decide +kernel) rfl) ?_
      · refine (narrow_n a b ((Pr.atMost ⟨c, d⟩ ⟨r, t⟩).lo) ((Pr.atMost ⟨c, d⟩ ⟨r, t⟩).hi) wx (by have hh := (giv_ok cc (a := ⟨⟨a, b⟩, ⟨c, d⟩⟩) (b := ⟨⟨p, q⟩, ⟨r, t⟩⟩) HA.out HB.out Ffk1.out); unfold givC at hh; simp only [if_neg (nb Ffk3.out), if_neg (nb Ffk4.out), if_neg (nb Ffk6.out), if_neg (nb Ffk7.out), if_neg (nb Ffk8.out), if_neg (nb Ffk9.out), if_neg (nb Ffk10.out), if_neg (nb Ffk11.out), if_neg (nb Ffk12.out), if_pos (yb Ffk13.out)] at hh; exact hh)).mono ?_
        rintro e w' ⟨rfl, b9⟩
        exact ⟨_, rfl, _, rfl, tab_put rfl hs rfl rfl, hS.quiet 3 rfl b9⟩
     ·
      have s102 : ax.tmps.getD 102 undef = .tuple #[.agg #[.int .u64 ((Rg.nar ⟨⟨a, b⟩, Pr.atMost ⟨c, d⟩ ⟨r, t⟩⟩).u.lo), .int .u64 ((Rg.nar ⟨⟨a, b⟩, Pr.atMost ⟨c, d⟩ ⟨r, t⟩⟩).u.hi), .int .i64 ((Rg.nar ⟨⟨a, b⟩, Pr.atMost ⟨c, d⟩ ⟨r, t⟩⟩).s.lo), .int .i64 ((Rg.nar ⟨⟨a, b⟩, Pr.atMost ⟨c, d⟩ ⟨r, t⟩⟩).s.hi)], .bool (Rg.narB ⟨⟨a, b⟩, Pr.atMost ⟨c, d⟩ ⟨r, t⟩⟩)] := (hdone 0 _ rfl rfl).2 _ rfl
      exact wpOp_val (v := .agg #[.int .u64 ((Rg.nar ⟨⟨a, b⟩, Pr.atMost ⟨c, d⟩ ⟨r, t⟩⟩).u.lo), .int .u64 ((Rg.nar ⟨⟨a, b⟩, Pr.atMost ⟨c, d⟩ ⟨r, t⟩⟩).u.hi), .int .i64 ((Rg.nar ⟨⟨a, b⟩, Pr.atMost ⟨c, d⟩ ⟨r, t⟩⟩).s.lo), .int .i64 ((Rg.nar ⟨⟨a, b⟩, Pr.atMost ⟨c, d⟩ ⟨r, t⟩⟩).s.hi)]) (w' := wx) rfl rfl (by simp [execOp, Act.eval, s102, go_sem]) ⟨_, rfl, tab_put rfl hs rfl rfl, hS.same 4 rfl⟩
     ·
      have s102 : ax.tmps.getD 102 undef = .tuple #[.agg #[.int .u64 ((Rg.nar ⟨⟨a, b⟩, Pr.atMost ⟨c, d⟩ ⟨r, t⟩⟩).u.lo), .int .u64 ((Rg.nar ⟨⟨a, b⟩, Pr.atMost ⟨c, d⟩ ⟨r, t⟩⟩).u.hi), .int .i64 ((Rg.nar ⟨⟨a, b⟩, Pr.atMost ⟨c, d⟩ ⟨r, t⟩⟩).s.lo), .int .i64 ((Rg.nar ⟨⟨a, b⟩, Pr.atMost ⟨c, d⟩ ⟨r, t⟩⟩).s.hi)], .bool (Rg.narB ⟨⟨a, b⟩, Pr.atMost ⟨c, d⟩ ⟨r, t⟩⟩)] := (hdone 0 _ rfl rfl).2 _ rfl
      exact wpOp_val (v := .bool (Rg.narB ⟨⟨a, b⟩, Pr.atMost ⟨c, d⟩ ⟨r, t⟩⟩)) (w' := wx) rfl rfl (by simp [execOp, Act.eval, s102, go_sem]) ⟨_, rfl, tab_put rfl hs rfl rfl, hS.same 5 rfl⟩
     ·
      have s103 : ax.tmps.getD 103 undef = .agg #[.int .u64 ((Rg.nar ⟨⟨a, b⟩, Pr.atMost ⟨c, d⟩ ⟨r, t⟩⟩).u.lo), .int .u64 ((Rg.nar ⟨⟨a, b⟩, Pr.atMost ⟨c, d⟩ ⟨r, t⟩⟩).u.hi), .int .i64 ((Rg.nar ⟨⟨a, b⟩, Pr.atMost ⟨c, d⟩ ⟨r, t⟩⟩).s.lo), .int .i64 ((Rg.nar ⟨⟨a, b⟩, Pr.atMost ⟨c, d⟩ ⟨r, t⟩⟩).s.hi)] := (hdone 0 _ rfl rfl).2 _ rfl
      have hr := hS.rowFi 2 rfl hfi
      exact wpOp_skp (w' := wx.setRow g3 #[.int .u64 ((Rg.nar ⟨⟨a, b⟩, Pr.atMost ⟨c, d⟩ ⟨r, t⟩⟩).u.lo), .int .u64 ((Rg.nar ⟨⟨a, b⟩, Pr.atMost ⟨c, d⟩ ⟨r, t⟩⟩).u.hi), .int .i64 ((Rg.nar ⟨⟨a, b⟩, Pr.atMost ⟨c, d⟩ ⟨r, t⟩⟩).s.lo), .int .i64 ((Rg.nar ⟨⟨a, b⟩, Pr.atMost ⟨c, d⟩ ⟨r, t⟩⟩).s.hi)]) rfl rfl (exec_storeR 60 _ _ rfl g3 #[.int .u64 ((Rg.nar ⟨⟨a, b⟩, Pr.atMost ⟨c, d⟩ ⟨r, t⟩⟩).u.lo), .int .u64 ((Rg.nar ⟨⟨a, b⟩, Pr.atMost ⟨c, d⟩ ⟨r, t⟩⟩).u.hi), .int .i64 ((Rg.nar ⟨⟨a, b⟩, Pr.atMost ⟨c, d⟩ ⟨r, t⟩⟩).s.lo), .int .i64 ((Rg.nar ⟨⟨a, b⟩, Pr.atMost ⟨c, d⟩ ⟨r, t⟩⟩).s.hi)] (show ax.eval (.tmp 6) = .pointer (some ⟨g3, 0, none⟩) from t6) (show ax.eval (.tmp 103) = .agg #[.int .u64 ((Rg.nar ⟨⟨a, b⟩, Pr.atMost ⟨c, d⟩ ⟨r, t⟩⟩).u.lo), .int .u64 ((Rg.nar ⟨⟨a, b⟩, Pr.atMost ⟨c, d⟩ ⟨r, t⟩⟩).u.hi), .int .i64 ((Rg.nar ⟨⟨a, b⟩, Pr.atMost ⟨c, d⟩ ⟨r, t⟩⟩).s.lo), .int .i64 ((Rg.nar ⟨⟨a, b⟩, Pr.atMost ⟨c, d⟩ ⟨r, t⟩⟩).s.hi)] from s103) hr (by kernel_rfl) rfl (by simp [Value.oneCell'])) ⟨undef, rfl, trivial, hS.storeBi 6 2 rfl q_g3 rfl ⟨(show g1 ≠ g3 by omega), (show g2 ≠ g3 by omega), (show g4 ≠ g3 by omega), (show g5 ≠ g3 by omega), trivial⟩ (stored_setRow wx g3 _ _ _ hr)⟩
     ·
      have s104 : ax.tmps.getD 104 undef = .bool (Rg.narB ⟨⟨a, b⟩, Pr.atMost ⟨c, d⟩ ⟨r, t⟩⟩) := (hdone 0 _ rfl rfl).2 _ rfl
      exact wpOp_val (v := .bool (Rg.narB ⟨⟨a, b⟩, Pr.atMost ⟨c, d⟩ ⟨r, t⟩⟩)) (w' := wx) rfl rfl (by simp [execOp, Act.eval, s104]) ⟨_, rfl, tab_put rfl hs rfl rfl, hS.same 7 rfl⟩
   intro a16 w16 fl d16 z16 rest16 R16 hfl hS
   obtain ⟨B16, n16, hBs, hAs, hPs⟩ := hS.finish hfl rfl
   replace d16 := d16.trans d15
   replace z16 := z16.trans z15
   obtain ⟨⟨-, b_g1_16⟩, ⟨-, b_g2_16⟩, ⟨-, b_g3_16⟩, ⟨-, b_g4_16⟩, ⟨-, b_g5_16⟩, -⟩ := hBs
   have s6_16 := (rest16 6 (not_of (by kernel_rfl))).trans s6_15
   have s7_16 : a16.tmps.getD 7 undef = .bool (Rg.narB ⟨⟨a, b⟩, Pr.atMost ⟨c, d⟩ ⟨r, t⟩⟩) := R16 7 _ rfl
   clear R16 rest16 hS hfl hPs hAs
   clear s6_15 s7_15 s8_15 s9_15 b_g1_15 b_g2_15 b_g3_15 b_g4_15 b_g5_15 d15 z15
   refine wp_ret ?_
   try simp only [Exit.inBlock, Exit.then]
   refine bodyPost_ret (res_ct (fn := Try.f24) rfl s6_16 (load_row 60 b_g3_16 Try.underlying60 rfl (by kernel_rfl)) s7_16) d16 ?_
   have no0 := nb Ffk3.out
   have no1 := nb Ffk4.out
   have no2 := nb Ffk6.out
   have no3 := nb Ffk7.out
   have no4 := nb Ffk8.out
   have no5 := nb Ffk9.out
   have no6 := nb Ffk10.out
   have no7 := nb Ffk11.out
   have no8 := nb Ffk12.out
   have ho : cc = 9 := yb Ffk13.out
   have hk : ccOk cc = true := by rw [ho]; rfl
   have HD : givC cc ⟨⟨a, b⟩, ⟨c, d⟩⟩ ⟨⟨p, q⟩, ⟨r, t⟩⟩ = ⟨⟨a, b⟩, Pr.atMost ⟨c, d⟩ ⟨r, t⟩⟩ := by
     unfold givC
     simp only [if_neg no0, if_neg no1, if_neg no2, if_neg no3, if_neg no4, if_neg no5, if_neg no6, if_neg no7, if_neg no8, if_pos ho]
     try rfl
   have HE : Value.tuple #[.agg #[.int .u64 ((Rg.nar ⟨⟨a, b⟩, Pr.atMost ⟨c, d⟩ ⟨r, t⟩⟩).u.lo), .int .u64 ((Rg.nar ⟨⟨a, b⟩, Pr.atMost ⟨c, d⟩ ⟨r, t⟩⟩).u.hi), .int .i64 ((Rg.nar ⟨⟨a, b⟩, Pr.atMost ⟨c, d⟩ ⟨r, t⟩⟩).s.lo), .int .i64 ((Rg.nar ⟨⟨a, b⟩, Pr.atMost ⟨c, d⟩ ⟨r, t⟩⟩).s.hi)], .bool (Rg.narB ⟨⟨a, b⟩, Pr.atMost ⟨c, d⟩ ⟨r, t⟩⟩)] = .tuple #[Rg.val (Rg.giv cc ⟨⟨a, b⟩, ⟨c, d⟩⟩ ⟨⟨p, q⟩, ⟨r, t⟩⟩), .bool (Rg.givB cc ⟨⟨a, b⟩, ⟨c, d⟩⟩ ⟨⟨p, q⟩, ⟨r, t⟩⟩)] := by unfold Rg.giv Rg.givB; rw [Ffk1.out, Ffk2.out, hk, if_pos (by rfl), HD]; rfl
   exact ⟨retV HE, B16⟩
  have Ffk13 := Lib.hid fk13; clear fk13
  refine wp_regx (SX W w13.heap.size [⟨g1, 60, (cR a b c d), none, #[]⟩, ⟨g2, 60, (cR p q r t), none, #[]⟩, ⟨g3, 60, (cR 0 0 0 0), none, #[]⟩, ⟨g4, 95, (cU a b), none, #[]⟩, ⟨g5, 99, (cS c d), none, #[]⟩] []) (TabX [fun vx => vx = .bool false, fun vx => vx = .bool false]) (by kernel_rfl) (back_of (by kernel_rfl)) (dst_of (by kernel_rfl)) (in_ofz (by kernel_rfl) z13) (fun fl w1 hfl hw => SX.start' hw B13 hfl rfl ⟨b_g1_13, b_g2_13, b_g3_13, b_g4_13, b_g5_13, trivial⟩) ?h52 ?_
  case h52 =>
    intro ix ox ax wx fl ho hS hfi clo hsz hrest hdone hund
    have t25 := (hrest 25 (not_of (by kernel_rfl))).trans s25_13
    have hs : ax.tmps.size = 105 := hsz.trans z13
    have hi : ix < 2 := (Array.getElem?_eq_some_iff.1 ho).1
    clear hrest hsz hund
    obtain rfl | rfl : ix = 0 ∨ ix = 1 := by omega
    all_goals obtain rfl := Option.some.inj (show some _ = some ox from ho)
    ·
     exact wpOp_val (v := .bool (cc == 9)) (w' := wx) rfl rfl (by (simp [execOp, Act.eval, t25, go_sem]; try (simp only [IntKind.wrap_i64, wrap64]))) ⟨_, rfl, tab_put rfl hs rfl (congrArg Value.bool Ffk13.out), hS.same 0 rfl⟩
    ·
     have s92 : ax.tmps.getD 92 undef = .bool false := (hdone 0 _ rfl rfl).2 _ rfl
     exact wpOp_val (v := .bool false) (w' := wx) rfl rfl (by simp [execOp, Act.eval, s92]) ⟨_, rfl, tab_put rfl hs rfl rfl, hS.same 1 rfl⟩
  intro a14 w14 fl d14 z14 rest14 R14 hfl hS
  obtain ⟨B14, n14, hBs, hAs, hPs⟩ := hS.finish hfl rfl
  replace d14 := d14.trans d13
  replace z14 := z14.trans z13
  obtain ⟨⟨-, b_g1_14⟩, ⟨-, b_g2_14⟩, ⟨-, b_g3_14⟩, ⟨-, b_g4_14⟩, ⟨-, b_g5_14⟩, -⟩ := hBs
  have s5_14 := (rest14 5 (not_of (by kernel_rfl))).trans s5_13
  have s6_14 := (rest14 6 (not_of (by kernel_rfl))).trans s6_13
  have s7_14 := (rest14 7 (not_of (by kernel_rfl))).trans s7_13
  have s8_14 := (rest14 8 (not_of (by kernel_rfl))).trans s8_13
  have s9_14 := (rest14 9 (not_of (by kernel_rfl))).trans s9_13
  have s25_14 := (rest14 25 (not_of (by kernel_rfl))).trans s25_13
  have s91_14 : a14.tmps.getD 91 undef = .bool false := R14 1 _ rfl
  clear R14 rest14 hS hfl hPs hAs
  clear s5_13 s6_13 s7_13 s8_13 s9_13 s25_13 s85_13 b_g1_13 b_g2_13 b_g3_13 b_g4_13 b_g5_13 d13 z13
  refine wp_cond_false (show a14.tmps.getD 91 undef = .bool false from s91_14) ?_
  refine wp_seq ?_
  cases fk14 : cc == 10
  case true =>
   have Ffk14 := Lib.hid fk14; clear fk14
   refine wp_regx (SX W w14.heap.size [⟨g1, 60, (cR a b c d), none, #[]⟩, ⟨g2, 60, (cR p q r t), none, #[]⟩, ⟨g3, 60, (cR 0 0 0 0), none, #[]⟩, ⟨g4, 95, (cU a b), none, #[]⟩, ⟨g5, 99, (cS c d), none, #[]⟩] []) (TabX [fun vx => vx = .bool true, fun vx => vx = .bool true]) (by kernel_rfl) (back_of (by kernel_rfl)) (dst_of (by kernel_rfl)) (in_ofz (by kernel_rfl) z14) (fun fl w1 hfl hw => SX.start' hw B14 hfl rfl ⟨b_g1_14, b_g2_14, b_g3_14, b_g4_14, b_g5_14, trivial⟩) ?h53 ?_
   case h53 =>
     intro ix ox ax wx fl ho hS hfi clo hsz hrest hdone hund
     have t25 := (hrest 25 (not_of (by kernel_rfl))).trans s25_14
     have hs : ax.tmps.size = 105 := hsz.trans z14
     have hi : ix < 2 := (Array.getElem?_eq_some_iff.1 ho).1
     clear hrest hsz hund
     obtain rfl | rfl : ix = 0 ∨ ix = 1 := by omega
     all_goals obtain rfl := Option.some.inj (show some _ = some ox from ho)
     ·
      exact wpOp_val (v := .bool (cc == 10)) (w' := wx) rfl rfl (by (simp [execOp, Act.eval, t25, go_sem]; try (simp only [IntKind.wrap_i64, wrap64]))) ⟨_, rfl, tab_put rfl hs rfl (congrArg Value.bool Ffk14.out), hS.same 0 rfl⟩
     ·
      have s98 : ax.tmps.getD 98 undef = .bool true := (hdone 0 _ rfl rfl).2 _ rfl
      exact wpOp_val (v := .bool true) (w' := wx) rfl rfl (by simp [execOp, Act.eval, s98]) ⟨_, rfl, tab_put rfl hs rfl rfl, hS.same 1 rfl⟩
   intro a15 w15 fl d15 z15 rest15 R15 hfl hS
   obtain ⟨B15, n15, hBs, hAs, hPs⟩ := hS.finish hfl rfl
   replace d15 := d15.trans d14
   replace z15 := z15.trans z14
   obtain ⟨⟨-, b_g1_15⟩, ⟨-, b_g2_15⟩, ⟨-, b_g3_15⟩, ⟨-, b_g4_15⟩, ⟨-, b_g5_15⟩, -⟩ := hBs
   have s6_15 := (rest15 6 (not_of (by kernel_rfl))).trans s6_14
   have s7_15 := (rest15 7 (not_of (by kernel_rfl))).trans s7_14
   have s8_15 := (rest15 8 (not_of (by kernel_rfl))).trans s8_14
   have s9_15 := (rest15 9 (not_of (by kernel_rfl))).trans s9_14
   have s97_15 : a15.tmps.getD 97 undef = .bool true := R15 1 _ rfl
   clear R15 rest15 hS hfl hPs hAs
   clear s5_14 s6_14 s7_14 s8_14 s9_14 s25_14 s91_14 b_g1_14 b_g2_14 b_g3_14 b_g4_14 b_g5_14 d14 z14
   refine wp_cond_true (show a15.tmps.getD 97 undef = .bool true from s97_15) ?_
   refine wp_skip ?_
   refine wp_seq ?_
   refine wp_regx (SX W w15.heap.size [⟨g1, 60, (cR a b c d), none, #[]⟩, ⟨g2, 60, (cR p q r t), none, #[]⟩, ⟨g3, 60, (cR 0 0 0 0), some 6, (cR ((Rg.nar ⟨⟨a, b⟩, ⟨c, d⟩⟩).u.lo) ((Rg.nar ⟨⟨a, b⟩, ⟨c, d⟩⟩).u.hi) ((Rg.nar ⟨⟨a, b⟩, ⟨c, d⟩⟩).s.lo) ((Rg.nar ⟨⟨a, b⟩, ⟨c, d⟩⟩).s.hi))⟩, ⟨g4, 95, (cU a b), none, #[]⟩, ⟨g5, 99, (cS c d), none, #[]⟩] []) (TabX [fun vx => vx = .agg #[.int .u64 a, .int .u64 b], fun vx => vx = .agg #[.int .i64 c, .int .i64 d], fun vx => vx = .agg #[.int .u64 a, .int .u64 b, .int .i64 c, .int .i64 d], fun vx => vx = .tuple #[.agg #[.int .u64 ((Rg.nar ⟨⟨a, b⟩, ⟨c, d⟩⟩).u.lo), .int .u64 ((Rg.nar ⟨⟨a, b⟩, ⟨c, d⟩⟩).u.hi), .int .i64 ((Rg.nar ⟨⟨a, b⟩, ⟨c, d⟩⟩).s.lo), .int .i64 ((Rg.nar ⟨⟨a, b⟩, ⟨c, d⟩⟩).s.hi)], .bool (Rg.narB ⟨⟨a, b⟩, ⟨c, d⟩⟩)], fun vx => vx = .agg #[.int .u64 ((Rg.nar ⟨⟨a, b⟩, ⟨c, d⟩⟩).u.lo), .int .u64 ((Rg.nar ⟨⟨a, b⟩, ⟨c, d⟩⟩).u.hi), .int .i64 ((Rg.nar ⟨⟨a, b⟩, ⟨c, d⟩⟩).s.lo), .int .i64 ((Rg.nar ⟨⟨a, b⟩, ⟨c, d⟩⟩).s.hi)], fun vx => vx = .bool (Rg.narB ⟨⟨a, b⟩, ⟨c, d⟩⟩), fun _ => True, fun vx => vx = .bool (Rg.narB ⟨⟨a, b⟩, ⟨c, d⟩⟩)]) (by kernel_rfl) (back_of (by kernel_rfl)) (dst_of (by kernel_rfl)) (in_ofz (by kernel_rfl) z15) (fun fl w1 hfl hw => SX.start' hw B15 hfl rfl ⟨b_g1_15, b_g2_15, b_g3_15, b_g4_15, b_g5_15, trivial⟩) ?h54 ?_
   case h54 =>
     intro ix ox ax wx fl ho hS hfi clo hsz hrest hdone hund
     have t6 := (hrest 6 (not_of (by kernel_rfl))).trans s6_15
     have t8 := (hrest 8 (not_of (by kernel_rfl))).trans s8_15
     have t9 := (hrest 9 (not_of (by kernel_rfl))).trans s9_15
     have hs : ax.tmps.size = 105 := hsz.trans z15
     have hi : ix < 8 := (Array.getElem?_eq_some_iff.1 ho).1
     clear hrest hsz hund
     obtain rfl | rfl | rfl | rfl | rfl | rfl | rfl | rfl : ix = 0 ∨ ix = 1 ∨ ix = 2 ∨ ix = 3 ∨ ix = 4 ∨ ix = 5 ∨ ix = 6 ∨ ix = 7 := by omega
     all_goals obtain rfl := Option.some.inj (show some _ = some ox from ho)
     ·
      have hr := hS.rowNi 3 rfl
      exact wpOp_val (v := .agg #[.int .u64 a, .int .u64 b]) (w' := wx) rfl rfl (exec_loadR 95 _ rfl g4 0 (show ax.eval (.tmp 8) = .pointer (some ⟨g4, 0, none⟩) from t8) hr [.int .u64 a, .int .u64 b] rfl _ Try.underlying95 rfl (by kernel_rfl)) ⟨_, rfl, tab_put rfl hs rfl rfl, hS.same 0 rfl⟩
     ·
      have hr := hS.rowNi 4 rfl
      exact wpOp_val (v := .agg #[.int .i64 c, .int .i64 d]) (w' := wx) rfl rfl (exec_loadR 99 _ rfl g5 0 (show ax.eval (.tmp 9) = .pointer (some ⟨g5, 0, none⟩) from t9) hr [.int .i64 c, .int .i64 d] rfl _ Try.underlying99 rfl (by kernel_rfl)) ⟨_, rfl, tab_put rfl hs rfl rfl, hS.same 1 rfl⟩
     ·
      have s99 : ax.tmps.getD 99 undef = .agg #[.int .u64 a, .int .u64 b] := (hdone 0 _ rfl rfl).2 _ rfl
      have s100 : ax.tmps.getD 100 undef = .agg #[.int .i64 c, .int .i64 d] := (hdone 1 _ rfl rfl).2 _ rfl
      refine wpOp_call (args := #[.agg #[.int .u64 a, .int .u64 b], .agg #[.int .i64 c, .int .i64 d]]) rfl rfl (exec_call rfl rfl rfl (args2 (show ax.eval (.tmp 99) = .agg #[.int .u64 a, .int .u64 b] from s99) (show ax.eval (.tmp 100) = .agg #[.int .i64 c, .int .i64 d] from s100)) Try.func60 (by decide +kernel) rfl) ?_
      · refine (both_n a b c d wx).mono ?_
        rintro e w' ⟨rfl, b9⟩
        exact ⟨_, rfl, _, rfl, tab_put rfl hs rfl rfl, hS.quiet 2 rfl b9⟩
     ·
      have s101 : ax.tmps.getD 101 undef = .agg #[.int .u64 a, .int .u64 b, .int .i64 c, .int .i64 d] := (hdone 0 _ rfl rfl).2 _ rfl
      refine wpOp_call (args := #[.agg #[.int .u64 a, .int .u64 b, .int .i64 c, .int .i64 d]]) rfl rfl (exec_call rfl rfl rfl (args1 (show ax.eval (.tmp 101) = .agg #[.int .u64 a, .int .u64 b, .int .i64 c, .int .i64 d] from s101)) Try.func28 (by decide +kernel) rfl) ?_
      · refine (narrow_n a b c d wx HA.out).mono ?_
        rintro e w' ⟨rfl, b9⟩
        exact ⟨_, rfl, _, rfl, tab_put rfl hs rfl rfl, hS.quiet 3 rfl b9⟩
     ·
      have s102 : ax.tmps.getD 102 undef = .tuple #[.agg #[.int .u64 ((Rg.nar ⟨⟨a, b⟩, ⟨c, d⟩⟩).u.lo), .int .u64 ((Rg.nar ⟨⟨a, b⟩, ⟨c, d⟩⟩).u.hi), .int .i64 ((Rg.nar ⟨⟨a, b⟩, ⟨c, d⟩⟩).s.lo), .int .i64 ((Rg.nar ⟨⟨a, b⟩, ⟨c, d⟩⟩).s.hi)], .bool (Rg.narB ⟨⟨a, b⟩, ⟨c, d⟩⟩)] := (hdone 0 _ rfl rfl).2 _ rfl
      exact wpOp_val (v := .agg #[.int .u64 ((Rg.nar ⟨⟨a, b⟩, ⟨c, d⟩⟩).u.lo), .int .u64 ((Rg.nar ⟨⟨a, b⟩, ⟨c, d⟩⟩).u.hi), .int .i64 ((Rg.nar ⟨⟨a, b⟩, ⟨c, d⟩⟩).s.lo), .int .i64 ((Rg.nar ⟨⟨a, b⟩, ⟨c, d⟩⟩).s.hi)]) (w' := wx) rfl rfl (by simp [execOp, Act.eval, s102, go_sem]) ⟨_, rfl, tab_put rfl hs rfl rfl, hS.same 4 rfl⟩
     ·
      have s102 : ax.tmps.getD 102 undef = .tuple #[.agg #[.int .u64 ((Rg.nar ⟨⟨a, b⟩, ⟨c, d⟩⟩).u.lo), .int .u64 ((Rg.nar ⟨⟨a, b⟩, ⟨c, d⟩⟩).u.hi), .int .i64 ((Rg.nar ⟨⟨a, b⟩, ⟨c, d⟩⟩).s.lo), .int .i64 ((Rg.nar ⟨⟨a, b⟩, ⟨c, d⟩⟩).s.hi)], .bool (Rg.narB ⟨⟨a, b⟩, ⟨c, d⟩⟩)] := (hdone 0 _ rfl rfl).2 _ rfl
      exact wpOp_val (v := .bool (Rg.narB ⟨⟨a, b⟩, ⟨c, d⟩⟩)) (w' := wx) rfl rfl (by simp [execOp, Act.eval, s102, go_sem]) ⟨_, rfl, tab_put rfl hs rfl rfl, hS.same 5 rfl⟩
     ·
      have s103 : ax.tmps.getD 103 undef = .agg #[.int .u64 ((Rg.nar ⟨⟨a, b⟩, ⟨c, d⟩⟩).u.lo), .int .u64 ((Rg.nar ⟨⟨a, b⟩, ⟨c, d⟩⟩).u.hi), .int .i64 ((Rg.nar ⟨⟨a, b⟩, ⟨c, d⟩⟩).s.lo), .int .i64 ((Rg.nar ⟨⟨a, b⟩, ⟨c, d⟩⟩).s.hi)] := (hdone 0 _ rfl rfl).2 _ rfl
      have hr := hS.rowFi 2 rfl hfi
      exact wpOp_skp (w' := wx.setRow g3 #[.int .u64 ((Rg.nar ⟨⟨a, b⟩, ⟨c, d⟩⟩).u.lo), .int .u64 ((Rg.nar ⟨⟨a, b⟩, ⟨c, d⟩⟩).u.hi), .int .i64 ((Rg.nar ⟨⟨a, b⟩, ⟨c, d⟩⟩).s.lo), .int .i64 ((Rg.nar ⟨⟨a, b⟩, ⟨c, d⟩⟩).s.hi)]) rfl rfl (exec_storeR 60 _ _ rfl g3 #[.int .u64 ((Rg.nar ⟨⟨a, b⟩, ⟨c, d⟩⟩).u.lo), .int .u64 ((Rg.nar ⟨⟨a, b⟩, ⟨c, d⟩⟩).u.hi), .int .i64 ((Rg.nar ⟨⟨a, b⟩, ⟨c, d⟩⟩).s.lo), .int .i64 ((Rg.nar ⟨⟨a, b⟩, ⟨c, d⟩⟩).s.hi)] (show ax.eval (.tmp 6) = .pointer (some ⟨g3, 0, none⟩) from t6) (show ax.eval (.tmp 103) = .agg #[.int .u64 ((Rg.nar ⟨⟨a, b⟩, ⟨c, d⟩⟩).u.lo), .int .u64 ((Rg.nar ⟨⟨a, b⟩, ⟨c, d⟩⟩).u.hi), .int .i64 ((Rg.nar ⟨⟨a, b⟩, ⟨c, d⟩⟩).s.lo), .int .i64 ((Rg.nar ⟨⟨a, b⟩, ⟨c, d⟩⟩).s.hi)] from s103) hr (by kernel_rfl) rfl (by simp [Value.oneCell'])) ⟨undef, rfl, trivial, hS.storeBi 6 2 rfl q_g3 rfl ⟨(show g1 ≠ g3 by omega), (show g2 ≠ g3 by omega), (show g4 ≠ g3 by omega), (show g5 ≠ g3 by omega), trivial⟩ (stored_setRow wx g3 _ _ _ hr)⟩
     ·
      have s104 : ax.tmps.getD 104 undef = .bool (Rg.narB ⟨⟨a, b⟩, ⟨c, d⟩⟩) := (hdone 0 _ rfl rfl).2 _ rfl
      exact wpOp_val (v := .bool (Rg.narB ⟨⟨a, b⟩, ⟨c, d⟩⟩)) (w' := wx) rfl rfl (by simp [execOp, Act.eval, s104]) ⟨_, rfl, tab_put rfl hs rfl rfl, hS.same 7 rfl⟩
   intro a16 w16 fl d16 z16 rest16 R16 hfl hS
   obtain ⟨B16, n16, hBs, hAs, hPs⟩ := hS.finish hfl rfl
   replace d16 := d16.trans d15
   replace z16 := z16.trans z15
   obtain ⟨⟨-, b_g1_16⟩, ⟨-, b_g2_16⟩, ⟨-, b_g3_16⟩, ⟨-, b_g4_16⟩, ⟨-, b_g5_16⟩, -⟩ := hBs
   have s6_16 := (rest16 6 (not_of (by kernel_rfl))).trans s6_15
   have s7_16 : a16.tmps.getD 7 undef = .bool (Rg.narB ⟨⟨a, b⟩, ⟨c, d⟩⟩) := R16 7 _ rfl
   clear R16 rest16 hS hfl hPs hAs
   clear s6_15 s7_15 s8_15 s9_15 s97_15 b_g1_15 b_g2_15 b_g3_15 b_g4_15 b_g5_15 d15 z15
   refine wp_ret ?_
   try simp only [Exit.inBlock, Exit.then]
   refine bodyPost_ret (res_ct (fn := Try.f24) rfl s6_16 (load_row 60 b_g3_16 Try.underlying60 rfl (by kernel_rfl)) s7_16) d16 ?_
   have no0 := nb Ffk3.out
   have no1 := nb Ffk4.out
   have no2 := nb Ffk6.out
   have no3 := nb Ffk7.out
   have no4 := nb Ffk8.out
   have no5 := nb Ffk9.out
   have no6 := nb Ffk10.out
   have no7 := nb Ffk11.out
   have no8 := nb Ffk12.out
   have no9 := nb Ffk13.out
   have ho : cc = 10 := yb Ffk14.out
   have hk : ccOk cc = true := by rw [ho]; rfl
   have HD : givC cc ⟨⟨a, b⟩, ⟨c, d⟩⟩ ⟨⟨p, q⟩, ⟨r, t⟩⟩ = ⟨⟨a, b⟩, ⟨c, d⟩⟩ := by
     unfold givC
     simp only [if_neg no0, if_neg no1, if_neg no2, if_neg no3, if_neg no4, if_neg no5, if_neg no6, if_neg no7, if_neg no8, if_neg no9, if_pos ho]
     try rfl
   have HE : Value.tuple #[.agg #[.int .u64 ((Rg.nar ⟨⟨a, b⟩, ⟨c, d⟩⟩).u.lo), .int .u64 ((Rg.nar ⟨⟨a, b⟩, ⟨c, d⟩⟩).u.hi), .int .i64 ((Rg.nar ⟨⟨a, b⟩, ⟨c, d⟩⟩).s.lo), .int .i64 ((Rg.nar ⟨⟨a, b⟩, ⟨c, d⟩⟩).s.hi)], .bool (Rg.narB ⟨⟨a, b⟩, ⟨c, d⟩⟩)] = .tuple #[Rg.val (Rg.giv cc ⟨⟨a, b⟩, ⟨c, d⟩⟩ ⟨⟨p, q⟩, ⟨r, t⟩⟩), .bool (Rg.givB cc ⟨⟨a, b⟩, ⟨c, d⟩⟩ ⟨⟨p, q⟩, ⟨r, t⟩⟩)] := by unfold Rg.giv Rg.givB; rw [Ffk1.out, Ffk2.out, hk, if_pos (by rfl), HD]; rfl
   exact ⟨retV HE, B16⟩
  have Ffk14 := Lib.hid fk14; clear fk14
  refine wp_regx (SX W w14.heap.size [⟨g1, 60, (cR a b c d), none, #[]⟩, ⟨g2, 60, (cR p q r t), none, #[]⟩, ⟨g3, 60, (cR 0 0 0 0), none, #[]⟩, ⟨g4, 95, (cU a b), none, #[]⟩, ⟨g5, 99, (cS c d), none, #[]⟩] []) (TabX [fun vx => vx = .bool false, fun vx => vx = .bool false]) (by kernel_rfl) (back_of (by kernel_rfl)) (dst_of (by kernel_rfl)) (in_ofz (by kernel_rfl) z14) (fun fl w1 hfl hw => SX.start' hw B14 hfl rfl ⟨b_g1_14, b_g2_14, b_g3_14, b_g4_14, b_g5_14, trivial⟩) ?h55 ?_
  case h55 =>
    intro ix ox ax wx fl ho hS hfi clo hsz hrest hdone hund
    have t25 := (hrest 25 (not_of (by kernel_rfl))).trans s25_14
    have hs : ax.tmps.size = 105 := hsz.trans z14
    have hi : ix < 2 := (Array.getElem?_eq_some_iff.1 ho).1
    clear hrest hsz hund
    obtain rfl | rfl : ix = 0 ∨ ix = 1 := by omega
    all_goals obtain rfl := Option.some.inj (show some _ = some ox from ho)
    ·
     exact wpOp_val (v := .bool (cc == 10)) (w' := wx) rfl rfl (by (simp [execOp, Act.eval, t25, go_sem]; try (simp only [IntKind.wrap_i64, wrap64]))) ⟨_, rfl, tab_put rfl hs rfl (congrArg Value.bool Ffk14.out), hS.same 0 rfl⟩
    ·
     have s98 : ax.tmps.getD 98 undef = .bool false := (hdone 0 _ rfl rfl).2 _ rfl
     exact wpOp_val (v := .bool false) (w' := wx) rfl rfl (by simp [execOp, Act.eval, s98]) ⟨_, rfl, tab_put rfl hs rfl rfl, hS.same 1 rfl⟩
  intro a15 w15 fl d15 z15 rest15 R15 hfl hS
  obtain ⟨B15, n15, hBs, hAs, hPs⟩ := hS.finish hfl rfl
  replace d15 := d15.trans d14
  replace z15 := z15.trans z14
  obtain ⟨⟨-, b_g1_15⟩, ⟨-, b_g2_15⟩, ⟨-, b_g3_15⟩, ⟨-, b_g4_15⟩, ⟨-, b_g5_15⟩, -⟩ := hBs
  have s6_15 := (rest15 6 (not_of (by kernel_rfl))).trans s6_14
  have s7_15 := (rest15 7 (not_of (by kernel_rfl))).trans s7_14
  have s8_15 := (rest15 8 (not_of (by kernel_rfl))).trans s8_14
  have s9_15 := (rest15 9 (not_of (by kernel_rfl))).trans s9_14
  have s97_15 : a15.tmps.getD 97 undef = .bool false := R15 1 _ rfl
  clear R15 rest15 hS hfl hPs hAs
  clear s5_14 s6_14 s7_14 s8_14 s9_14 s25_14 s91_14 b_g1_14 b_g2_14 b_g3_14 b_g4_14 b_g5_14 d14 z14
  refine wp_cond_false (show a15.tmps.getD 97 undef = .bool false from s97_15) ?_
  refine wp_seq ?_
  refine wp_regx (SX W w15.heap.size [⟨g1, 60, (cR a b c d), none, #[]⟩, ⟨g2, 60, (cR p q r t), none, #[]⟩, ⟨g3, 60, (cR 0 0 0 0), some 1, (cR allR.u.lo allR.u.hi allR.s.lo allR.s.hi)⟩, ⟨g4, 95, (cU a b), none, #[]⟩, ⟨g5, 99, (cS c d), none, #[]⟩] []) (TabX [fun vx => vx = .agg #[.int .u64 allR.u.lo, .int .u64 allR.u.hi, .int .i64 allR.s.lo, .int .i64 allR.s.hi], fun _ => True, fun vx => vx = .bool false]) (by kernel_rfl) (back_of (by kernel_rfl)) (dst_of (by kernel_rfl)) (in_ofz (by kernel_rfl) z15) (fun fl w1 hfl hw => SX.start' hw B15 hfl rfl ⟨b_g1_15, b_g2_15, b_g3_15, b_g4_15, b_g5_15, trivial⟩) ?h56 ?_
  case h56 =>
    intro ix ox ax wx fl ho hS hfi clo hsz hrest hdone hund
    have t6 := (hrest 6 (not_of (by kernel_rfl))).trans s6_15
    have hs : ax.tmps.size = 105 := hsz.trans z15
    have hi : ix < 3 := (Array.getElem?_eq_some_iff.1 ho).1
    clear hrest hsz hund
    obtain rfl | rfl | rfl : ix = 0 ∨ ix = 1 ∨ ix = 2 := by omega
    all_goals obtain rfl := Option.some.inj (show some _ = some ox from ho)
    ·
     refine wpOp_call (args := #[]) rfl rfl (exec_call rfl rfl rfl (args0 ) Try.func32 (by decide +kernel) rfl) ?_
     · refine (all_n wx).mono ?_
       rintro e w' ⟨rfl, b9⟩
       exact ⟨_, rfl, _, rfl, tab_put rfl hs rfl rfl, hS.quiet 0 rfl b9⟩
    ·
     have s26 : ax.tmps.getD 26 undef = .agg #[.int .u64 allR.u.lo, .int .u64 allR.u.hi, .int .i64 allR.s.lo, .int .i64 allR.s.hi] := (hdone 0 _ rfl rfl).2 _ rfl
     have hr := hS.rowFi 2 rfl hfi
     exact wpOp_skp (w' := wx.setRow g3 #[.int .u64 allR.u.lo, .int .u64 allR.u.hi, .int .i64 allR.s.lo, .int .i64 allR.s.hi]) rfl rfl (exec_storeR 60 _ _ rfl g3 #[.int .u64 allR.u.lo, .int .u64 allR.u.hi, .int .i64 allR.s.lo, .int .i64 allR.s.hi] (show ax.eval (.tmp 6) = .pointer (some ⟨g3, 0, none⟩) from t6) (show ax.eval (.tmp 26) = .agg #[.int .u64 allR.u.lo, .int .u64 allR.u.hi, .int .i64 allR.s.lo, .int .i64 allR.s.hi] from s26) hr (by kernel_rfl) rfl (by simp [Value.oneCell'])) ⟨undef, rfl, trivial, hS.storeBi 1 2 rfl q_g3 rfl ⟨(show g1 ≠ g3 by omega), (show g2 ≠ g3 by omega), (show g4 ≠ g3 by omega), (show g5 ≠ g3 by omega), trivial⟩ (stored_setRow wx g3 _ _ _ hr)⟩
    ·
     exact wpOp_val (v := .bool false) (w' := wx) rfl rfl (by simp [execOp, Act.eval]) ⟨_, rfl, tab_put rfl hs rfl rfl, hS.same 2 rfl⟩
  intro a16 w16 fl d16 z16 rest16 R16 hfl hS
  obtain ⟨B16, n16, hBs, hAs, hPs⟩ := hS.finish hfl rfl
  replace d16 := d16.trans d15
  replace z16 := z16.trans z15
  obtain ⟨⟨-, b_g1_16⟩, ⟨-, b_g2_16⟩, ⟨-, b_g3_16⟩, ⟨-, b_g4_16⟩, ⟨-, b_g5_16⟩, -⟩ := hBs
  have s6_16 := (rest16 6 (not_of (by kernel_rfl))).trans s6_15
  have s7_16 : a16.tmps.getD 7 undef = .bool false := R16 2 _ rfl
  have s8_16 := (rest16 8 (not_of (by kernel_rfl))).trans s8_15
  have s9_16 := (rest16 9 (not_of (by kernel_rfl))).trans s9_15
  clear R16 rest16 hS hfl hPs hAs
  clear s6_15 s7_15 s8_15 s9_15 s97_15 b_g1_15 b_g2_15 b_g3_15 b_g4_15 b_g5_15 d15 z15
  refine wp_ret ?_
  try simp only [Exit.inBlock, Exit.then]
  refine bodyPost_ret (res_ct (fn := Try.f24) rfl s6_16 (load_row 60 b_g3_16 Try.underlying60 rfl (by kernel_rfl)) s7_16) d16 ?_
  have no0 := nb Ffk3.out
  have no1 := nb Ffk4.out
  have no2 := nb Ffk6.out
  have no3 := nb Ffk7.out
  have no4 := nb Ffk8.out
  have no5 := nb Ffk9.out
  have no6 := nb Ffk10.out
  have no7 := nb Ffk11.out
  have no8 := nb Ffk12.out
  have no9 := nb Ffk13.out
  have no10 := nb Ffk14.out
  have hk : ccOk cc = false := by unfold ccOk; rw [Bool.and_eq_false_iff, decide_eq_false_iff_not, decide_eq_false_iff_not]; omega
  have HE : Value.tuple #[.agg #[.int .u64 allR.u.lo, .int .u64 allR.u.hi, .int .i64 allR.s.lo, .int .i64 allR.s.hi], .bool false] = .tuple #[Rg.val (Rg.giv cc ⟨⟨a, b⟩, ⟨c, d⟩⟩ ⟨⟨p, q⟩, ⟨r, t⟩⟩), .bool (Rg.givB cc ⟨⟨a, b⟩, ⟨c, d⟩⟩ ⟨⟨p, q⟩, ⟨r, t⟩⟩)] := by unfold Rg.giv Rg.givB; rw [Ffk1.out, Ffk2.out, hk]; rfl
  exact ⟨retV HE, B16⟩
end Go.Proofs.Ytfededcmelhjjaa.Bnd
