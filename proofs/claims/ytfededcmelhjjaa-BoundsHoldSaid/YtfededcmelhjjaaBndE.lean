/-
  Package bounds: Meet. (Written by gen_bndd.py.)
-/
import Derived.Test.YtfededcmelhjjaaBndD
namespace Go.Proofs.Ytfededcmelhjjaa.Bnd
open Go.RowKit
set_option linter.unusedVariables false
set_option linter.unusedSimpArgs false
set_option linter.unnecessarySimpa false
set_option maxRecDepth 100000

set_option maxHeartbeats 4000000 in
theorem meet_n (a b c d p q r t : Int) (W : World) (ha : Rg.Ok ⟨⟨a, b⟩, ⟨c, d⟩⟩) (hb : Rg.Ok ⟨⟨p, q⟩, ⟨r, t⟩⟩) : Calls Try.prog 22 #[.agg #[.int .u64 a, .int .u64 b, .int .i64 c, .int .i64 d], .agg #[.int .u64 p, .int .u64 q, .int .i64 r, .int .i64 t]] W fun e w' => e = .returned (.tuple #[.agg #[.int .u64 (Rg.meetR ⟨⟨a, b⟩, ⟨c, d⟩⟩ ⟨⟨p, q⟩, ⟨r, t⟩⟩).u.lo, .int .u64 (Rg.meetR ⟨⟨a, b⟩, ⟨c, d⟩⟩ ⟨⟨p, q⟩, ⟨r, t⟩⟩).u.hi, .int .i64 (Rg.meetR ⟨⟨a, b⟩, ⟨c, d⟩⟩ ⟨⟨p, q⟩, ⟨r, t⟩⟩).s.lo, .int .i64 (Rg.meetR ⟨⟨a, b⟩, ⟨c, d⟩⟩ ⟨⟨p, q⟩, ⟨r, t⟩⟩).s.hi], .bool (Rg.meetB ⟨⟨a, b⟩, ⟨c, d⟩⟩ ⟨⟨p, q⟩, ⟨r, t⟩⟩)]) ∧ Below W.heap.size W w' := by
  have HK : Hid (Rg.Ok ⟨Pr.meet ⟨a, b⟩ ⟨p, q⟩, Pr.meet ⟨c, d⟩ ⟨r, t⟩⟩) := Lib.hid (meet_ok ha hb)
  clear ha hb
  refine calls_abs Try.func22 rfl (Nat.le_of_ble_eq_true rfl) ?_
  intro a0 d0 z0 h0
  have z0 : a0.tmps.size = 29 := z0
  have s0_0 : a0.tmps.getD 0 undef = .agg #[.int .u64 a, .int .u64 b, .int .i64 c, .int .i64 d] := h0 0 (Nat.le_of_ble_eq_true rfl)
  have s1_0 : a0.tmps.getD 1 undef = .agg #[.int .u64 p, .int .u64 q, .int .i64 r, .int .i64 t] := h0 1 (Nat.le_of_ble_eq_true rfl)
  clear h0
  have B0 : Below W.heap.size W W := Below.refl _ _
  refine wp_seq ?_
  refine wp_regx (SX W W.heap.size [] [⟨0, 2, 60, (cR a b c d), none, #[]⟩, ⟨1, 3, 60, (cR p q r t), none, #[]⟩, ⟨2, 4, 60, (cR 0 0 0 0), none, #[]⟩]) (TabX [fun _ => True, fun _ => True, fun _ => True, fun vx => vx = .bool false]) (by kernel_rfl) (back_of (by kernel_rfl)) (dst_of (by kernel_rfl)) (in_ofz (by kernel_rfl) z0) (fun fl w1 hfl hw => SX.start' hw B0 hfl rfl trivial) ?h1 ?_
  case h1 =>
    intro ix ox ax wx fl ho hS hfi clo hsz hrest hdone hund
    have t0 := (hrest 0 (not_of (by kernel_rfl))).trans s0_0
    have t1 := (hrest 1 (not_of (by kernel_rfl))).trans s1_0
    have hs : ax.tmps.size = 29 := hsz.trans z0
    have hi : ix < 4 := (Array.getElem?_eq_some_iff.1 ho).1
    clear hrest hsz hund
    obtain rfl | rfl | rfl | rfl : ix = 0 ∨ ix = 1 ∨ ix = 2 ∨ ix = 3 := by omega
    all_goals obtain rfl := Option.some.inj (show some _ = some ox from ho)
    ·
     refine wpOp_val (v := .pointer (some ⟨wx.heap.size, 0, none⟩)) (w' := wx.alloc (.cells #[.int .u64 a, .int .u64 b, .int .i64 c, .int .i64 d] 60)) rfl rfl ?_ ⟨_, rfl, trivial, hS.alloc 0 2 60 #[.int .u64 a, .int .u64 b, .int .i64 c, .int .i64 d] [] [⟨1, 3, 60, (cR p q r t), none, #[]⟩, ⟨2, 4, 60, (cR 0 0 0 0), none, #[]⟩] (none) #[] rfl rfl rfl (by rw [hs]; omega) trivial⟩
     · simp [execOp, Act.eval, t0, go_sem]
    ·
     refine wpOp_val (v := .pointer (some ⟨wx.heap.size, 0, none⟩)) (w' := wx.alloc (.cells #[.int .u64 p, .int .u64 q, .int .i64 r, .int .i64 t] 60)) rfl rfl ?_ ⟨_, rfl, trivial, hS.alloc 1 3 60 #[.int .u64 p, .int .u64 q, .int .i64 r, .int .i64 t] [⟨0, 2, 60, (cR a b c d), none, #[]⟩] [⟨2, 4, 60, (cR 0 0 0 0), none, #[]⟩] (none) #[] rfl rfl rfl (by rw [hs]; omega) trivial⟩
     · simp [execOp, Act.eval, t1, go_sem]
    ·
     refine wpOp_val (v := .pointer (some ⟨wx.heap.size, 0, none⟩)) (w' := wx.alloc (.cells #[.int .u64 0, .int .u64 0, .int .i64 0, .int .i64 0] 60)) rfl rfl ?_ ⟨_, rfl, trivial, hS.alloc 2 4 60 #[.int .u64 0, .int .u64 0, .int .i64 0, .int .i64 0] [⟨0, 2, 60, (cR a b c d), none, #[]⟩, ⟨1, 3, 60, (cR p q r t), none, #[]⟩] [] (none) #[] rfl rfl rfl (by rw [hs]; omega) trivial⟩
     · simp [execOp, Act.eval, go_sem]
    ·
     exact wpOp_val (v := .bool false) (w' := wx) rfl rfl (by simp [execOp, Act.eval]) ⟨_, rfl, tab_put rfl hs rfl rfl, hS.same 3 rfl⟩
  intro a1 w1 fl d1 z1 rest1 R1 hfl hS
  obtain ⟨B1, n1, hBs, hAs, hPs⟩ := hS.finish hfl rfl
  replace d1 := d1.trans d0
  replace z1 := z1.trans z0
  obtain ⟨⟨g1, u_g1, q_g1, b_g1_1⟩, ⟨g2, u_g2, q_g2, b_g2_1⟩, ⟨g3, u_g3, q_g3, b_g3_1⟩, -⟩ := hAs
  replace u_g1 : a1.tmps.getD 2 undef = .pointer (some ⟨g1, 0, none⟩) := u_g1
  have m_g1 : W.heap.size ≤ g1 := q_g1
  replace q_g1 : W.heap.size ≤ g1 := Nat.le_trans B0.size q_g1
  replace u_g2 : a1.tmps.getD 3 undef = .pointer (some ⟨g2, 0, none⟩) := u_g2
  have m_g2 : W.heap.size ≤ g2 := q_g2
  replace q_g2 : W.heap.size ≤ g2 := Nat.le_trans B0.size q_g2
  replace u_g3 : a1.tmps.getD 4 undef = .pointer (some ⟨g3, 0, none⟩) := u_g3
  have m_g3 : W.heap.size ≤ g3 := q_g3
  replace q_g3 : W.heap.size ≤ g3 := Nat.le_trans B0.size q_g3
  simp only [List.pairwise_cons, List.mem_cons, List.not_mem_nil, or_false, forall_eq_or_imp, forall_eq] at hPs
  have ne_g1_g2 : g1 ≠ g2 := by
    have hn : slotOf a1 2 ≠ slotOf a1 3 := hPs.1.1
    intro e; subst e; exact hn (Eq.trans u_g1 u_g2.symm)
  have ne_g1_g3 : g1 ≠ g3 := by
    have hn : slotOf a1 2 ≠ slotOf a1 4 := hPs.1.2
    intro e; subst e; exact hn (Eq.trans u_g1 u_g3.symm)
  have ne_g2_g3 : g2 ≠ g3 := by
    have hn : slotOf a1 3 ≠ slotOf a1 4 := hPs.2.1
    intro e; subst e; exact hn (Eq.trans u_g2 u_g3.symm)
  have s5_1 : a1.tmps.getD 5 undef = .bool false := R1 3 _ rfl
  clear R1 rest1 hS hfl hPs hBs
  clear s0_0 s1_0 d0 z0
  refine wp_seq ?_
  refine wp_seq ?_
  cases fk1 : Rg.mayB ⟨⟨a, b⟩, ⟨c, d⟩⟩
  case false =>
   have Ffk1 := Lib.hid fk1; clear fk1
   refine wp_regx (SX W w1.heap.size [⟨g1, 60, (cR a b c d), none, #[]⟩, ⟨g2, 60, (cR p q r t), none, #[]⟩, ⟨g3, 60, (cR 0 0 0 0), none, #[]⟩] []) (TabX [fun vx => vx = .agg #[.int .u64 a, .int .u64 b, .int .i64 c, .int .i64 d], fun vx => vx = .bool false, fun vx => vx = .bool true, fun vx => vx = .bool true, fun vx => vx = undef, fun vx => vx = undef, fun vx => vx = undef, fun vx => vx = .bool true]) (by kernel_rfl) (back_of (by kernel_rfl)) (dst_of (by kernel_rfl)) (in_ofz (by kernel_rfl) z1) (fun fl w1 hfl hw => SX.start' hw B1 hfl rfl ⟨b_g1_1, b_g2_1, b_g3_1, trivial⟩) ?h2 ?_
   case h2 =>
     intro ix ox ax wx fl ho hS hfi clo hsz hrest hdone hund
     have t2 := (hrest 2 (not_of (by kernel_rfl))).trans u_g1
     have t3 := (hrest 3 (not_of (by kernel_rfl))).trans u_g2
     have hs : ax.tmps.size = 29 := hsz.trans z1
     have hi : ix < 8 := (Array.getElem?_eq_some_iff.1 ho).1
     clear hrest hsz hund
     obtain rfl | rfl | rfl | rfl | rfl | rfl | rfl | rfl : ix = 0 ∨ ix = 1 ∨ ix = 2 ∨ ix = 3 ∨ ix = 4 ∨ ix = 5 ∨ ix = 6 ∨ ix = 7 := by omega
     all_goals obtain rfl := Option.some.inj (show some _ = some ox from ho)
     ·
      have hr := hS.rowNi 0 rfl
      exact wpOp_val (v := .agg #[.int .u64 a, .int .u64 b, .int .i64 c, .int .i64 d]) (w' := wx) rfl rfl (exec_loadR 60 _ rfl g1 0 (show ax.eval (.tmp 2) = .pointer (some ⟨g1, 0, none⟩) from t2) hr [.int .u64 a, .int .u64 b, .int .i64 c, .int .i64 d] rfl _ Try.underlying60 rfl (by kernel_rfl)) ⟨_, rfl, tab_put rfl hs rfl rfl, hS.same 0 rfl⟩
     ·
      have s6 : ax.tmps.getD 6 undef = .agg #[.int .u64 a, .int .u64 b, .int .i64 c, .int .i64 d] := (hdone 0 _ rfl rfl).2 _ rfl
      refine wpOp_call (args := #[.agg #[.int .u64 a, .int .u64 b, .int .i64 c, .int .i64 d]]) rfl rfl (exec_call rfl rfl rfl (args1 (show ax.eval (.tmp 6) = .agg #[.int .u64 a, .int .u64 b, .int .i64 c, .int .i64 d] from s6)) Try.func30 (by decide +kernel) rfl) ?_
      · refine (may_n a b c d wx).mono ?_
        rintro e w' ⟨rfl, b9⟩
        exact ⟨_, rfl, _, rfl, tab_put rfl hs rfl (congrArg Value.bool Ffk1.out), hS.quiet 1 rfl b9⟩
     ·
      have s7 : ax.tmps.getD 7 undef = .bool false := (hdone 0 _ rfl rfl).2 _ rfl
      exact wpOp_val (v := .bool true) (w' := wx) rfl rfl (by simp [execOp, Act.eval, s7, go_sem]) ⟨_, rfl, tab_put rfl hs rfl rfl, hS.same 2 rfl⟩
     ·
      have s8 : ax.tmps.getD 8 undef = .bool true := (hdone 0 _ rfl rfl).2 _ rfl
      exact wpOp_val (v := .bool true) (w' := wx) rfl rfl (by simp [execOp, Act.eval, s8]) ⟨_, rfl, tab_put rfl hs rfl rfl, hS.same 3 rfl⟩
     ·
      have hg : ax.tmps.getD 9 undef = .bool true := (hdone 0 _ rfl rfl).2 _ rfl
      exact wpOp_no rfl (wanted_no 3 9 true hg (by rw [hs]; omega) rfl rfl rfl rfl) ⟨_, rfl, tab_put rfl hs rfl rfl, hS.same 4 rfl⟩
     ·
      have hg : ax.tmps.getD 9 undef = .bool true := (hdone 1 _ rfl rfl).2 _ rfl
      exact wpOp_no rfl (wanted_no 3 9 true hg (by rw [hs]; omega) rfl rfl rfl rfl) ⟨_, rfl, tab_put rfl hs rfl rfl, hS.same 5 rfl⟩
     ·
      have hg : ax.tmps.getD 9 undef = .bool true := (hdone 1 _ rfl rfl).2 _ rfl
      exact wpOp_no rfl (wanted_no 3 9 true hg (by rw [hs]; omega) rfl rfl rfl rfl) ⟨_, rfl, tab_put rfl hs rfl rfl, hS.same 6 rfl⟩
     ·
      have s9 : ax.tmps.getD 9 undef = .bool true := (hdone 0 _ rfl rfl).2 _ rfl
      have s12 : ax.tmps.getD 12 undef = undef := (hdone 1 _ rfl rfl).2 _ rfl
      exact wpOp_val (v := .bool true) (w' := wx) rfl rfl (by simp [execOp, Act.eval, s9, s12, go_sem]) ⟨_, rfl, tab_put rfl hs rfl rfl, hS.same 7 rfl⟩
   intro a2 w2 fl d2 z2 rest2 R2 hfl hS
   obtain ⟨B2, n2, hBs, hAs, hPs⟩ := hS.finish hfl rfl
   replace d2 := d2.trans d1
   replace z2 := z2.trans z1
   obtain ⟨⟨l_g1_2, b_g1_2⟩, ⟨l_g2_2, b_g2_2⟩, ⟨l_g3_2, b_g3_2⟩, -⟩ := hBs
   replace l_g1_2 : g1 < w1.heap.size := l_g1_2
   replace l_g2_2 : g2 < w1.heap.size := l_g2_2
   replace l_g3_2 : g3 < w1.heap.size := l_g3_2
   have s2_2 := (rest2 2 (not_of (by kernel_rfl))).trans u_g1
   have s3_2 := (rest2 3 (not_of (by kernel_rfl))).trans u_g2
   have s4_2 := (rest2 4 (not_of (by kernel_rfl))).trans u_g3
   have s5_2 := (rest2 5 (not_of (by kernel_rfl))).trans s5_1
   have s13_2 : a2.tmps.getD 13 undef = .bool true := R2 7 _ rfl
   clear R2 rest2 hS hfl hPs hAs
   clear u_g1 u_g2 u_g3 s5_1 b_g1_1 b_g2_1 b_g3_1 d1 z1
   refine wp_cond_true (show a2.tmps.getD 13 undef = .bool true from s13_2) ?_
   refine wp_seq ?_
   refine wp_regx (SX W w2.heap.size [⟨g1, 60, (cR a b c d), none, #[]⟩, ⟨g2, 60, (cR p q r t), none, #[]⟩, ⟨g3, 60, (cR 0 0 0 0), some 1, (cR allR.u.lo allR.u.hi allR.s.lo allR.s.hi)⟩] []) (TabX [fun vx => vx = .agg #[.int .u64 allR.u.lo, .int .u64 allR.u.hi, .int .i64 allR.s.lo, .int .i64 allR.s.hi], fun _ => True, fun vx => vx = .bool false]) (by kernel_rfl) (back_of (by kernel_rfl)) (dst_of (by kernel_rfl)) (in_ofz (by kernel_rfl) z2) (fun fl w1 hfl hw => SX.start' hw B2 hfl rfl ⟨b_g1_2, b_g2_2, b_g3_2, trivial⟩) ?h3 ?_
   case h3 =>
     intro ix ox ax wx fl ho hS hfi clo hsz hrest hdone hund
     have t4 := (hrest 4 (not_of (by kernel_rfl))).trans s4_2
     have hs : ax.tmps.size = 29 := hsz.trans z2
     have hi : ix < 3 := (Array.getElem?_eq_some_iff.1 ho).1
     clear hrest hsz hund
     obtain rfl | rfl | rfl : ix = 0 ∨ ix = 1 ∨ ix = 2 := by omega
     all_goals obtain rfl := Option.some.inj (show some _ = some ox from ho)
     ·
      refine wpOp_call (args := #[]) rfl rfl (exec_call rfl rfl rfl (args0 ) Try.func32 (by decide +kernel) rfl) ?_
      · refine (all_n wx).mono ?_
        rintro e w' ⟨rfl, b9⟩
        exact ⟨_, rfl, _, rfl, tab_put rfl hs rfl rfl, hS.quiet 0 rfl b9⟩
     ·
      have s14 : ax.tmps.getD 14 undef = .agg #[.int .u64 allR.u.lo, .int .u64 allR.u.hi, .int .i64 allR.s.lo, .int .i64 allR.s.hi] := (hdone 0 _ rfl rfl).2 _ rfl
      have hr := hS.rowFi 2 rfl hfi
      exact wpOp_skp (w' := wx.setRow g3 #[.int .u64 allR.u.lo, .int .u64 allR.u.hi, .int .i64 allR.s.lo, .int .i64 allR.s.hi]) rfl rfl (exec_storeR 60 _ _ rfl g3 #[.int .u64 allR.u.lo, .int .u64 allR.u.hi, .int .i64 allR.s.lo, .int .i64 allR.s.hi] (show ax.eval (.tmp 4) = .pointer (some ⟨g3, 0, none⟩) from t4) (show ax.eval (.tmp 14) = .agg #[.int .u64 allR.u.lo, .int .u64 allR.u.hi, .int .i64 allR.s.lo, .int .i64 allR.s.hi] from s14) hr (by kernel_rfl) rfl (by simp [Value.oneCell'])) ⟨undef, rfl, trivial, hS.storeBi 1 2 rfl q_g3 rfl ⟨(show g1 ≠ g3 by omega), (show g2 ≠ g3 by omega), trivial⟩ (stored_setRow wx g3 _ _ _ hr)⟩
     ·
      exact wpOp_val (v := .bool false) (w' := wx) rfl rfl (by simp [execOp, Act.eval]) ⟨_, rfl, tab_put rfl hs rfl rfl, hS.same 2 rfl⟩
   intro a3 w3 fl d3 z3 rest3 R3 hfl hS
   obtain ⟨B3, n3, hBs, hAs, hPs⟩ := hS.finish hfl rfl
   replace d3 := d3.trans d2
   replace z3 := z3.trans z2
   obtain ⟨⟨-, b_g1_3⟩, ⟨-, b_g2_3⟩, ⟨-, b_g3_3⟩, -⟩ := hBs
   have s2_3 := (rest3 2 (not_of (by kernel_rfl))).trans s2_2
   have s3_3 := (rest3 3 (not_of (by kernel_rfl))).trans s3_2
   have s4_3 := (rest3 4 (not_of (by kernel_rfl))).trans s4_2
   have s5_3 : a3.tmps.getD 5 undef = .bool false := R3 2 _ rfl
   clear R3 rest3 hS hfl hPs hAs
   clear s2_2 s3_2 s4_2 s5_2 s13_2 b_g1_2 b_g2_2 b_g3_2 d2 z2
   refine wp_ret ?_
   try simp only [Exit.inBlock, Exit.then]
   refine bodyPost_ret (res_ct (fn := Try.f22) rfl s4_3 (load_row 60 b_g3_3 Try.underlying60 rfl (by kernel_rfl)) s5_3) d3 ?_
   have HE : Value.tuple #[.agg #[.int .u64 allR.u.lo, .int .u64 allR.u.hi, .int .i64 allR.s.lo, .int .i64 allR.s.hi], .bool false] = .tuple #[Rg.val (Rg.meetR ⟨⟨a, b⟩, ⟨c, d⟩⟩ ⟨⟨p, q⟩, ⟨r, t⟩⟩), .bool (Rg.meetB ⟨⟨a, b⟩, ⟨c, d⟩⟩ ⟨⟨p, q⟩, ⟨r, t⟩⟩)] := by unfold Rg.meetR Rg.meetB; rw [Ffk1.out]; rfl
   exact ⟨retV HE, B3⟩
  have Ffk1 := Lib.hid fk1; clear fk1
  cases fk2 : Rg.mayB ⟨⟨p, q⟩, ⟨r, t⟩⟩
  case false =>
   have Ffk2 := Lib.hid fk2; clear fk2
   refine wp_regx (SX W w1.heap.size [⟨g1, 60, (cR a b c d), none, #[]⟩, ⟨g2, 60, (cR p q r t), none, #[]⟩, ⟨g3, 60, (cR 0 0 0 0), none, #[]⟩] []) (TabX [fun vx => vx = .agg #[.int .u64 a, .int .u64 b, .int .i64 c, .int .i64 d], fun vx => vx = .bool true, fun vx => vx = .bool false, fun vx => vx = .bool false, fun vx => vx = .agg #[.int .u64 p, .int .u64 q, .int .i64 r, .int .i64 t], fun vx => vx = .bool false, fun vx => vx = .bool true, fun vx => vx = .bool true]) (by kernel_rfl) (back_of (by kernel_rfl)) (dst_of (by kernel_rfl)) (in_ofz (by kernel_rfl) z1) (fun fl w1 hfl hw => SX.start' hw B1 hfl rfl ⟨b_g1_1, b_g2_1, b_g3_1, trivial⟩) ?h4 ?_
   case h4 =>
     intro ix ox ax wx fl ho hS hfi clo hsz hrest hdone hund
     have t2 := (hrest 2 (not_of (by kernel_rfl))).trans u_g1
     have t3 := (hrest 3 (not_of (by kernel_rfl))).trans u_g2
     have hs : ax.tmps.size = 29 := hsz.trans z1
     have hi : ix < 8 := (Array.getElem?_eq_some_iff.1 ho).1
     clear hrest hsz hund
     obtain rfl | rfl | rfl | rfl | rfl | rfl | rfl | rfl : ix = 0 ∨ ix = 1 ∨ ix = 2 ∨ ix = 3 ∨ ix = 4 ∨ ix = 5 ∨ ix = 6 ∨ ix = 7 := by omega
     all_goals obtain rfl := Option.some.inj (show some _ = some ox from ho)
     ·
      have hr := hS.rowNi 0 rfl
      exact wpOp_val (v := .agg #[.int .u64 a, .int .u64 b, .int .i64 c, .int .i64 d]) (w' := wx) rfl rfl (exec_loadR 60 _ rfl g1 0 (show ax.eval (.tmp 2) = .pointer (some ⟨g1, 0, none⟩) from t2) hr [.int .u64 a, .int .u64 b, .int .i64 c, .int .i64 d] rfl _ Try.underlying60 rfl (by kernel_rfl)) ⟨_, rfl, tab_put rfl hs rfl rfl, hS.same 0 rfl⟩
     ·
      have s6 : ax.tmps.getD 6 undef = .agg #[.int .u64 a, .int .u64 b, .int .i64 c, .int .i64 d] := (hdone 0 _ rfl rfl).2 _ rfl
      refine wpOp_call (args := #[.agg #[.int .u64 a, .int .u64 b, .int .i64 c, .int .i64 d]]) rfl rfl (exec_call rfl rfl rfl (args1 (show ax.eval (.tmp 6) = .agg #[.int .u64 a, .int .u64 b, .int .i64 c, .int .i64 d] from s6)) Try.func30 (by decide +kernel) rfl) ?_
      · refine (may_n a b c d wx).mono ?_
        rintro e w' ⟨rfl, b9⟩
        exact ⟨_, rfl, _, rfl, tab_put rfl hs rfl (congrArg Value.bool Ffk1.out), hS.quiet 1 rfl b9⟩
     ·
      have s7 : ax.tmps.getD 7 undef = .bool true := (hdone 0 _ rfl rfl).2 _ rfl
      exact wpOp_val (v := .bool false) (w' := wx) rfl rfl (by simp [execOp, Act.eval, s7, go_sem]) ⟨_, rfl, tab_put rfl hs rfl rfl, hS.same 2 rfl⟩
     ·
      have s8 : ax.tmps.getD 8 undef = .bool false := (hdone 0 _ rfl rfl).2 _ rfl
      exact wpOp_val (v := .bool false) (w' := wx) rfl rfl (by simp [execOp, Act.eval, s8]) ⟨_, rfl, tab_put rfl hs rfl rfl, hS.same 3 rfl⟩
     ·
      have hg : ax.tmps.getD 9 undef = .bool false := (hdone 0 _ rfl rfl).2 _ rfl
      have hr := hS.rowNi 1 rfl
      exact wpOp_valw (v := .agg #[.int .u64 p, .int .u64 q, .int .i64 r, .int .i64 t]) (w' := wx) rfl (wanted_yes 3 9 false hg (by rw [hs]; omega) rfl rfl rfl rfl) (exec_loadR 60 _ rfl g2 0 (show ax.eval (.tmp 3) = .pointer (some ⟨g2, 0, none⟩) from t3) hr [.int .u64 p, .int .u64 q, .int .i64 r, .int .i64 t] rfl _ Try.underlying60 rfl (by kernel_rfl)) ⟨_, rfl, tab_put rfl hs rfl rfl, hS.same 4 rfl⟩
     ·
      have hg : ax.tmps.getD 9 undef = .bool false := (hdone 1 _ rfl rfl).2 _ rfl
      have s10 : ax.tmps.getD 10 undef = .agg #[.int .u64 p, .int .u64 q, .int .i64 r, .int .i64 t] := (hdone 0 _ rfl rfl).2 _ rfl
      refine wpOp_callw (args := #[.agg #[.int .u64 p, .int .u64 q, .int .i64 r, .int .i64 t]]) rfl (wanted_yes 3 9 false hg (by rw [hs]; omega) rfl rfl rfl rfl) (exec_call rfl rfl rfl (args1 (show ax.eval (.tmp 10) = .agg #[.int .u64 p, .int .u64 q, .int .i64 r, .int .i64 t] from s10)) Try.func30 (by decide +kernel) rfl) ?_
      · refine (may_n p q r t wx).mono ?_
        rintro e w' ⟨rfl, b9⟩
        exact ⟨_, rfl, _, rfl, tab_put rfl hs rfl (congrArg Value.bool Ffk2.out), hS.quiet 5 rfl b9⟩
     ·
      have hg : ax.tmps.getD 9 undef = .bool false := (hdone 1 _ rfl rfl).2 _ rfl
      have s11 : ax.tmps.getD 11 undef = .bool false := (hdone 0 _ rfl rfl).2 _ rfl
      exact wpOp_valw (v := .bool true) (w' := wx) rfl (wanted_yes 3 9 false hg (by rw [hs]; omega) rfl rfl rfl rfl) (by simp [execOp, Act.eval, s11, go_sem]) ⟨_, rfl, tab_put rfl hs rfl rfl, hS.same 6 rfl⟩
     ·
      have s9 : ax.tmps.getD 9 undef = .bool false := (hdone 0 _ rfl rfl).2 _ rfl
      have s12 : ax.tmps.getD 12 undef = .bool true := (hdone 1 _ rfl rfl).2 _ rfl
      exact wpOp_val (v := .bool true) (w' := wx) rfl rfl (by simp [execOp, Act.eval, s9, s12, go_sem]) ⟨_, rfl, tab_put rfl hs rfl rfl, hS.same 7 rfl⟩
   intro a2 w2 fl d2 z2 rest2 R2 hfl hS
   obtain ⟨B2, n2, hBs, hAs, hPs⟩ := hS.finish hfl rfl
   replace d2 := d2.trans d1
   replace z2 := z2.trans z1
   obtain ⟨⟨l_g1_2, b_g1_2⟩, ⟨l_g2_2, b_g2_2⟩, ⟨l_g3_2, b_g3_2⟩, -⟩ := hBs
   replace l_g1_2 : g1 < w1.heap.size := l_g1_2
   replace l_g2_2 : g2 < w1.heap.size := l_g2_2
   replace l_g3_2 : g3 < w1.heap.size := l_g3_2
   have s2_2 := (rest2 2 (not_of (by kernel_rfl))).trans u_g1
   have s3_2 := (rest2 3 (not_of (by kernel_rfl))).trans u_g2
   have s4_2 := (rest2 4 (not_of (by kernel_rfl))).trans u_g3
   have s5_2 := (rest2 5 (not_of (by kernel_rfl))).trans s5_1
   have s13_2 : a2.tmps.getD 13 undef = .bool true := R2 7 _ rfl
   clear R2 rest2 hS hfl hPs hAs
   clear u_g1 u_g2 u_g3 s5_1 b_g1_1 b_g2_1 b_g3_1 d1 z1
   refine wp_cond_true (show a2.tmps.getD 13 undef = .bool true from s13_2) ?_
   refine wp_seq ?_
   refine wp_regx (SX W w2.heap.size [⟨g1, 60, (cR a b c d), none, #[]⟩, ⟨g2, 60, (cR p q r t), none, #[]⟩, ⟨g3, 60, (cR 0 0 0 0), some 1, (cR allR.u.lo allR.u.hi allR.s.lo allR.s.hi)⟩] []) (TabX [fun vx => vx = .agg #[.int .u64 allR.u.lo, .int .u64 allR.u.hi, .int .i64 allR.s.lo, .int .i64 allR.s.hi], fun _ => True, fun vx => vx = .bool false]) (by kernel_rfl) (back_of (by kernel_rfl)) (dst_of (by kernel_rfl)) (in_ofz (by kernel_rfl) z2) (fun fl w1 hfl hw => SX.start' hw B2 hfl rfl ⟨b_g1_2, b_g2_2, b_g3_2, trivial⟩) ?h5 ?_
   case h5 =>
     intro ix ox ax wx fl ho hS hfi clo hsz hrest hdone hund
     have t4 := (hrest 4 (not_of (by kernel_rfl))).trans s4_2
     have hs : ax.tmps.size = 29 := hsz.trans z2
     have hi : ix < 3 := (Array.getElem?_eq_some_iff.1 ho).1
     clear hrest hsz hund
     obtain rfl | rfl | rfl : ix = 0 ∨ ix = 1 ∨ ix = 2 := by omega
     all_goals obtain rfl := Option.some.inj (show some _ = some ox from ho)
     ·
      refine wpOp_call (args := #[]) rfl rfl (exec_call rfl rfl rfl (args0 ) Try.func32 (by decide +kernel) rfl) ?_
      · refine (all_n wx).mono ?_
        rintro e w' ⟨rfl, b9⟩
        exact ⟨_, rfl, _, rfl, tab_put rfl hs rfl rfl, hS.quiet 0 rfl b9⟩
     ·
      have s14 : ax.tmps.getD 14 undef = .agg #[.int .u64 allR.u.lo, .int .u64 allR.u.hi, .int .i64 allR.s.lo, .int .i64 allR.s.hi] := (hdone 0 _ rfl rfl).2 _ rfl
      have hr := hS.rowFi 2 rfl hfi
      exact wpOp_skp (w' := wx.setRow g3 #[.int .u64 allR.u.lo, .int .u64 allR.u.hi, .int .i64 allR.s.lo, .int .i64 allR.s.hi]) rfl rfl (exec_storeR 60 _ _ rfl g3 #[.int .u64 allR.u.lo, .int .u64 allR.u.hi, .int .i64 allR.s.lo, .int .i64 allR.s.hi] (show ax.eval (.tmp 4) = .pointer (some ⟨g3, 0, none⟩) from t4) (show ax.eval (.tmp 14) = .agg #[.int .u64 allR.u.lo, .int .u64 allR.u.hi, .int .i64 allR.s.lo, .int .i64 allR.s.hi] from s14) hr (by kernel_rfl) rfl (by simp [Value.oneCell'])) ⟨undef, rfl, trivial, hS.storeBi 1 2 rfl q_g3 rfl ⟨(show g1 ≠ g3 by omega), (show g2 ≠ g3 by omega), trivial⟩ (stored_setRow wx g3 _ _ _ hr)⟩
     ·
      exact wpOp_val (v := .bool false) (w' := wx) rfl rfl (by simp [execOp, Act.eval]) ⟨_, rfl, tab_put rfl hs rfl rfl, hS.same 2 rfl⟩
   intro a3 w3 fl d3 z3 rest3 R3 hfl hS
   obtain ⟨B3, n3, hBs, hAs, hPs⟩ := hS.finish hfl rfl
   replace d3 := d3.trans d2
   replace z3 := z3.trans z2
   obtain ⟨⟨-, b_g1_3⟩, ⟨-, b_g2_3⟩, ⟨-, b_g3_3⟩, -⟩ := hBs
   have s2_3 := (rest3 2 (not_of (by kernel_rfl))).trans s2_2
   have s3_3 := (rest3 3 (not_of (by kernel_rfl))).trans s3_2
   have s4_3 := (rest3 4 (not_of (by kernel_rfl))).trans s4_2
   have s5_3 : a3.tmps.getD 5 undef = .bool false := R3 2 _ rfl
   clear R3 rest3 hS hfl hPs hAs
   clear s2_2 s3_2 s4_2 s5_2 s13_2 b_g1_2 b_g2_2 b_g3_2 d2 z2
   refine wp_ret ?_
   try simp only [Exit.inBlock, Exit.then]
   refine bodyPost_ret (res_ct (fn := Try.f22) rfl s4_3 (load_row 60 b_g3_3 Try.underlying60 rfl (by kernel_rfl)) s5_3) d3 ?_
   have HE : Value.tuple #[.agg #[.int .u64 allR.u.lo, .int .u64 allR.u.hi, .int .i64 allR.s.lo, .int .i64 allR.s.hi], .bool false] = .tuple #[Rg.val (Rg.meetR ⟨⟨a, b⟩, ⟨c, d⟩⟩ ⟨⟨p, q⟩, ⟨r, t⟩⟩), .bool (Rg.meetB ⟨⟨a, b⟩, ⟨c, d⟩⟩ ⟨⟨p, q⟩, ⟨r, t⟩⟩)] := by unfold Rg.meetR Rg.meetB; rw [Ffk1.out, Ffk2.out]; rfl
   exact ⟨retV HE, B3⟩
  have Ffk2 := Lib.hid fk2; clear fk2
  refine wp_regx (SX W w1.heap.size [⟨g1, 60, (cR a b c d), none, #[]⟩, ⟨g2, 60, (cR p q r t), none, #[]⟩, ⟨g3, 60, (cR 0 0 0 0), none, #[]⟩] []) (TabX [fun vx => vx = .agg #[.int .u64 a, .int .u64 b, .int .i64 c, .int .i64 d], fun vx => vx = .bool true, fun vx => vx = .bool false, fun vx => vx = .bool false, fun vx => vx = .agg #[.int .u64 p, .int .u64 q, .int .i64 r, .int .i64 t], fun vx => vx = .bool true, fun vx => vx = .bool false, fun vx => vx = .bool false]) (by kernel_rfl) (back_of (by kernel_rfl)) (dst_of (by kernel_rfl)) (in_ofz (by kernel_rfl) z1) (fun fl w1 hfl hw => SX.start' hw B1 hfl rfl ⟨b_g1_1, b_g2_1, b_g3_1, trivial⟩) ?h6 ?_
  case h6 =>
    intro ix ox ax wx fl ho hS hfi clo hsz hrest hdone hund
    have t2 := (hrest 2 (not_of (by kernel_rfl))).trans u_g1
    have t3 := (hrest 3 (not_of (by kernel_rfl))).trans u_g2
    have hs : ax.tmps.size = 29 := hsz.trans z1
    have hi : ix < 8 := (Array.getElem?_eq_some_iff.1 ho).1
    clear hrest hsz hund
    obtain rfl | rfl | rfl | rfl | rfl | rfl | rfl | rfl : ix = 0 ∨ ix = 1 ∨ ix = 2 ∨ ix = 3 ∨ ix = 4 ∨ ix = 5 ∨ ix = 6 ∨ ix = 7 := by omega
    all_goals obtain rfl := Option.some.inj (show some _ = some ox from ho)
    ·
     have hr := hS.rowNi 0 rfl
     exact wpOp_val (v := .agg #[.int .u64 a, .int .u64 b, .int .i64 c, .int .i64 d]) (w' := wx) rfl rfl (exec_loadR 60 _ rfl g1 0 (show ax.eval (.tmp 2) = .pointer (some ⟨g1, 0, none⟩) from t2) hr [.int .u64 a, .int .u64 b, .int .i64 c, .int .i64 d] rfl _ Try.underlying60 rfl (by kernel_rfl)) ⟨_, rfl, tab_put rfl hs rfl rfl, hS.same 0 rfl⟩
    ·
     have s6 : ax.tmps.getD 6 undef = .agg #[.int .u64 a, .int .u64 b, .int .i64 c, .int .i64 d] := (hdone 0 _ rfl rfl).2 _ rfl
     refine wpOp_call (args := #[.agg #[.int .u64 a, .int .u64 b, .int .i64 c, .int .i64 d]]) rfl rfl (exec_call rfl rfl rfl (args1 (show ax.eval (.tmp 6) = .agg #[.int .u64 a, .int .u64 b, .int .i64 c, .int .i64 d] from s6)) Try.func30 (by decide +kernel) rfl) ?_
     · refine (may_n a b c d wx).mono ?_
       rintro e w' ⟨rfl, b9⟩
       exact ⟨_, rfl, _, rfl, tab_put rfl hs rfl (congrArg Value.bool Ffk1.out), hS.quiet 1 rfl b9⟩
    ·
     have s7 : ax.tmps.getD 7 undef = .bool true := (hdone 0 _ rfl rfl).2 _ rfl
     exact wpOp_val (v := .bool false) (w' := wx) rfl rfl (by simp [execOp, Act.eval, s7, go_sem]) ⟨_, rfl, tab_put rfl hs rfl rfl, hS.same 2 rfl⟩
    ·
     have s8 : ax.tmps.getD 8 undef = .bool false := (hdone 0 _ rfl rfl).2 _ rfl
     exact wpOp_val (v := .bool false) (w' := wx) rfl rfl (by simp [execOp, Act.eval, s8]) ⟨_, rfl, tab_put rfl hs rfl rfl, hS.same 3 rfl⟩
    ·
     have hg : ax.tmps.getD 9 undef = .bool false := (hdone 0 _ rfl rfl).2 _ rfl
     have hr := hS.rowNi 1 rfl
     exact wpOp_valw (v := .agg #[.int .u64 p, .int .u64 q, .int .i64 r, .int .i64 t]) (w' := wx) rfl (wanted_yes 3 9 false hg (by rw [hs]; omega) rfl rfl rfl rfl) (exec_loadR 60 _ rfl g2 0 (show ax.eval (.tmp 3) = .pointer (some ⟨g2, 0, none⟩) from t3) hr [.int .u64 p, .int .u64 q, .int .i64 r, .int .i64 t] rfl _ Try.underlying60 rfl (by kernel_rfl)) ⟨_, rfl, tab_put rfl hs rfl rfl, hS.same 4 rfl⟩
    ·
     have hg : ax.tmps.getD 9 undef = .bool false := (hdone 1 _ rfl rfl).2 _ rfl
     have s10 : ax.tmps.getD 10 undef = .agg #[.int .u64 p, .int .u64 q, .int .i64 r, .int .i64 t] := (hdone 0 _ rfl rfl).2 _ rfl
     refine wpOp_callw (args := #[.agg #[.int .u64 p, .int .u64 q, .int .i64 r, .int .i64 t]]) rfl (wanted_yes 3 9 false hg (by rw [hs]; omega) rfl rfl rfl rfl) (exec_call rfl rfl rfl (args1 (show ax.eval (.tmp 10) = .agg #[.int .u64 p, .int .u64 q, .int .i64 r, .int .i64 t] from s10)) Try.func30 (by decide +kernel) rfl) ?_
     · refine (may_n p q r t wx).mono ?_
       rintro e w' ⟨rfl, b9⟩
       exact ⟨_, rfl, _, rfl, tab_put rfl hs rfl (congrArg Value.bool Ffk2.out), hS.quiet 5 rfl b9⟩
    ·
     have hg : ax.tmps.getD 9 undef = .bool false := (hdone 1 _ rfl rfl).2 _ rfl
     have s11 : ax.tmps.getD 11 undef = .bool true := (hdone 0 _ rfl rfl).2 _ rfl
     exact wpOp_valw (v := .bool false) (w' := wx) rfl (wanted_yes 3 9 false hg (by rw [hs]; omega) rfl rfl rfl rfl) (by simp [execOp, Act.eval, s11, go_sem]) ⟨_, rfl, tab_put rfl hs rfl rfl, hS.same 6 rfl⟩
    ·
     have s9 : ax.tmps.getD 9 undef = .bool false := (hdone 0 _ rfl rfl).2 _ rfl
     have s12 : ax.tmps.getD 12 undef = .bool false := (hdone 1 _ rfl rfl).2 _ rfl
     exact wpOp_val (v := .bool false) (w' := wx) rfl rfl (by simp [execOp, Act.eval, s9, s12, go_sem]) ⟨_, rfl, tab_put rfl hs rfl rfl, hS.same 7 rfl⟩
  intro a2 w2 fl d2 z2 rest2 R2 hfl hS
  obtain ⟨B2, n2, hBs, hAs, hPs⟩ := hS.finish hfl rfl
  replace d2 := d2.trans d1
  replace z2 := z2.trans z1
  obtain ⟨⟨l_g1_2, b_g1_2⟩, ⟨l_g2_2, b_g2_2⟩, ⟨l_g3_2, b_g3_2⟩, -⟩ := hBs
  replace l_g1_2 : g1 < w1.heap.size := l_g1_2
  replace l_g2_2 : g2 < w1.heap.size := l_g2_2
  replace l_g3_2 : g3 < w1.heap.size := l_g3_2
  have s2_2 := (rest2 2 (not_of (by kernel_rfl))).trans u_g1
  have s3_2 := (rest2 3 (not_of (by kernel_rfl))).trans u_g2
  have s4_2 := (rest2 4 (not_of (by kernel_rfl))).trans u_g3
  have s5_2 := (rest2 5 (not_of (by kernel_rfl))).trans s5_1
  have s13_2 : a2.tmps.getD 13 undef = .bool false := R2 7 _ rfl
  clear R2 rest2 hS hfl hPs hAs
  clear u_g1 u_g2 u_g3 s5_1 b_g1_1 b_g2_1 b_g3_1 d1 z1
  refine wp_cond_false (show a2.tmps.getD 13 undef = .bool false from s13_2) ?_
  refine wp_skip ?_
  refine wp_seq ?_
  refine wp_regx (SX W w2.heap.size [⟨g1, 60, (cR a b c d), none, #[]⟩, ⟨g2, 60, (cR p q r t), none, #[]⟩, ⟨g3, 60, (cR 0 0 0 0), some 14, (cR ((Rg.nar ⟨Pr.meet ⟨a, b⟩ ⟨p, q⟩, Pr.meet ⟨c, d⟩ ⟨r, t⟩⟩).u.lo) ((Rg.nar ⟨Pr.meet ⟨a, b⟩ ⟨p, q⟩, Pr.meet ⟨c, d⟩ ⟨r, t⟩⟩).u.hi) ((Rg.nar ⟨Pr.meet ⟨a, b⟩ ⟨p, q⟩, Pr.meet ⟨c, d⟩ ⟨r, t⟩⟩).s.lo) ((Rg.nar ⟨Pr.meet ⟨a, b⟩ ⟨p, q⟩, Pr.meet ⟨c, d⟩ ⟨r, t⟩⟩).s.hi))⟩] []) (TabX [fun vx => vx = .agg #[.int .u64 a, .int .u64 b, .int .i64 c, .int .i64 d], fun vx => vx = .agg #[.int .u64 a, .int .u64 b], fun vx => vx = .agg #[.int .u64 p, .int .u64 q, .int .i64 r, .int .i64 t], fun vx => vx = .agg #[.int .u64 p, .int .u64 q], fun vx => vx = .agg #[.int .u64 ((Pr.meet ⟨a, b⟩ ⟨p, q⟩).lo), .int .u64 ((Pr.meet ⟨a, b⟩ ⟨p, q⟩).hi)], fun vx => vx = .agg #[.int .u64 a, .int .u64 b, .int .i64 c, .int .i64 d], fun vx => vx = .agg #[.int .i64 c, .int .i64 d], fun vx => vx = .agg #[.int .u64 p, .int .u64 q, .int .i64 r, .int .i64 t], fun vx => vx = .agg #[.int .i64 r, .int .i64 t], fun vx => vx = .agg #[.int .i64 ((Pr.meet ⟨c, d⟩ ⟨r, t⟩).lo), .int .i64 ((Pr.meet ⟨c, d⟩ ⟨r, t⟩).hi)], fun vx => vx = .agg #[.int .u64 ((Pr.meet ⟨a, b⟩ ⟨p, q⟩).lo), .int .u64 ((Pr.meet ⟨a, b⟩ ⟨p, q⟩).hi), .int .i64 ((Pr.meet ⟨c, d⟩ ⟨r, t⟩).lo), .int .i64 ((Pr.meet ⟨c, d⟩ ⟨r, t⟩).hi)], fun vx => vx = .tuple #[.agg #[.int .u64 ((Rg.nar ⟨Pr.meet ⟨a, b⟩ ⟨p, q⟩, Pr.meet ⟨c, d⟩ ⟨r, t⟩⟩).u.lo), .int .u64 ((Rg.nar ⟨Pr.meet ⟨a, b⟩ ⟨p, q⟩, Pr.meet ⟨c, d⟩ ⟨r, t⟩⟩).u.hi), .int .i64 ((Rg.nar ⟨Pr.meet ⟨a, b⟩ ⟨p, q⟩, Pr.meet ⟨c, d⟩ ⟨r, t⟩⟩).s.lo), .int .i64 ((Rg.nar ⟨Pr.meet ⟨a, b⟩ ⟨p, q⟩, Pr.meet ⟨c, d⟩ ⟨r, t⟩⟩).s.hi)], .bool (Rg.narB ⟨Pr.meet ⟨a, b⟩ ⟨p, q⟩, Pr.meet ⟨c, d⟩ ⟨r, t⟩⟩)], fun vx => vx = .agg #[.int .u64 ((Rg.nar ⟨Pr.meet ⟨a, b⟩ ⟨p, q⟩, Pr.meet ⟨c, d⟩ ⟨r, t⟩⟩).u.lo), .int .u64 ((Rg.nar ⟨Pr.meet ⟨a, b⟩ ⟨p, q⟩, Pr.meet ⟨c, d⟩ ⟨r, t⟩⟩).u.hi), .int .i64 ((Rg.nar ⟨Pr.meet ⟨a, b⟩ ⟨p, q⟩, Pr.meet ⟨c, d⟩ ⟨r, t⟩⟩).s.lo), .int .i64 ((Rg.nar ⟨Pr.meet ⟨a, b⟩ ⟨p, q⟩, Pr.meet ⟨c, d⟩ ⟨r, t⟩⟩).s.hi)], fun vx => vx = .bool (Rg.narB ⟨Pr.meet ⟨a, b⟩ ⟨p, q⟩, Pr.meet ⟨c, d⟩ ⟨r, t⟩⟩), fun _ => True, fun vx => vx = .bool (Rg.narB ⟨Pr.meet ⟨a, b⟩ ⟨p, q⟩, Pr.meet ⟨c, d⟩ ⟨r, t⟩⟩)]) (by kernel_rfl) (back_of (by kernel_rfl)) (dst_of (by kernel_rfl)) (in_ofz (by kernel_rfl) z2) (fun fl w1 hfl hw => SX.start' hw B2 hfl rfl ⟨b_g1_2, b_g2_2, b_g3_2, trivial⟩) ?h7 ?_
  case h7 =>
    intro ix ox ax wx fl ho hS hfi clo hsz hrest hdone hund
    have t2 := (hrest 2 (not_of (by kernel_rfl))).trans s2_2
    have t3 := (hrest 3 (not_of (by kernel_rfl))).trans s3_2
    have t4 := (hrest 4 (not_of (by kernel_rfl))).trans s4_2
    have hs : ax.tmps.size = 29 := hsz.trans z2
    have hi : ix < 16 := (Array.getElem?_eq_some_iff.1 ho).1
    clear hrest hsz hund
    obtain rfl | rfl | rfl | rfl | rfl | rfl | rfl | rfl | rfl | rfl | rfl | rfl | rfl | rfl | rfl | rfl : ix = 0 ∨ ix = 1 ∨ ix = 2 ∨ ix = 3 ∨ ix = 4 ∨ ix = 5 ∨ ix = 6 ∨ ix = 7 ∨ ix = 8 ∨ ix = 9 ∨ ix = 10 ∨ ix = 11 ∨ ix = 12 ∨ ix = 13 ∨ ix = 14 ∨ ix = 15 := by omega
    all_goals obtain rfl := Option.some.inj (show some _ = some ox from ho)
    ·
     have hr := hS.rowNi 0 rfl
     exact wpOp_val (v := .agg #[.int .u64 a, .int .u64 b, .int .i64 c, .int .i64 d]) (w' := wx) rfl rfl (exec_loadR 60 _ rfl g1 0 (show ax.eval (.tmp 2) = .pointer (some ⟨g1, 0, none⟩) from t2) hr [.int .u64 a, .int .u64 b, .int .i64 c, .int .i64 d] rfl _ Try.underlying60 rfl (by kernel_rfl)) ⟨_, rfl, tab_put rfl hs rfl rfl, hS.same 0 rfl⟩
    ·
     have s15 : ax.tmps.getD 15 undef = .agg #[.int .u64 a, .int .u64 b, .int .i64 c, .int .i64 d] := (hdone 0 _ rfl rfl).2 _ rfl
     refine wpOp_call (args := #[.agg #[.int .u64 a, .int .u64 b, .int .i64 c, .int .i64 d]]) rfl rfl (exec_call rfl rfl rfl (args1 (show ax.eval (.tmp 15) = .agg #[.int .u64 a, .int .u64 b, .int .i64 c, .int .i64 d] from s15)) Try.func61 (by decide +kernel) rfl) ?_
     · refine (unsigned_n a b c d wx).mono ?_
       rintro e w' ⟨rfl, b9⟩
       exact ⟨_, rfl, _, rfl, tab_put rfl hs rfl rfl, hS.quiet 1 rfl b9⟩
    ·
     have hr := hS.rowNi 1 rfl
     exact wpOp_val (v := .agg #[.int .u64 p, .int .u64 q, .int .i64 r, .int .i64 t]) (w' := wx) rfl rfl (exec_loadR 60 _ rfl g2 0 (show ax.eval (.tmp 3) = .pointer (some ⟨g2, 0, none⟩) from t3) hr [.int .u64 p, .int .u64 q, .int .i64 r, .int .i64 t] rfl _ Try.underlying60 rfl (by kernel_rfl)) ⟨_, rfl, tab_put rfl hs rfl rfl, hS.same 2 rfl⟩
    ·
     have s17 : ax.tmps.getD 17 undef = .agg #[.int .u64 p, .int .u64 q, .int .i64 r, .int .i64 t] := (hdone 0 _ rfl rfl).2 _ rfl
     refine wpOp_call (args := #[.agg #[.int .u64 p, .int .u64 q, .int .i64 r, .int .i64 t]]) rfl rfl (exec_call rfl rfl rfl (args1 (show ax.eval (.tmp 17) = .agg #[.int .u64 p, .int .u64 q, .int .i64 r, .int .i64 t] from s17)) Try.func61 (by decide +kernel) rfl) ?_
     · refine (unsigned_n p q r t wx).mono ?_
       rintro e w' ⟨rfl, b9⟩
       exact ⟨_, rfl, _, rfl, tab_put rfl hs rfl rfl, hS.quiet 3 rfl b9⟩
    ·
     have s16 : ax.tmps.getD 16 undef = .agg #[.int .u64 a, .int .u64 b] := (hdone 0 _ rfl rfl).2 _ rfl
     have s18 : ax.tmps.getD 18 undef = .agg #[.int .u64 p, .int .u64 q] := (hdone 1 _ rfl rfl).2 _ rfl
     refine wpOp_call (args := #[.agg #[.int .u64 a, .int .u64 b], .agg #[.int .u64 p, .int .u64 q]]) rfl rfl (exec_call rfl rfl rfl (args2 (show ax.eval (.tmp 16) = .agg #[.int .u64 a, .int .u64 b] from s16) (show ax.eval (.tmp 18) = .agg #[.int .u64 p, .int .u64 q] from s18)) Try.func62 (by decide +kernel) rfl) ?_
     · refine (meetU_n a b p q wx).mono ?_
       rintro e w' ⟨rfl, b9⟩
       exact ⟨_, rfl, _, rfl, tab_put rfl hs rfl rfl, hS.quiet 4 rfl b9⟩
    ·
     have hr := hS.rowNi 0 rfl
     exact wpOp_val (v := .agg #[.int .u64 a, .int .u64 b, .int .i64 c, .int .i64 d]) (w' := wx) rfl rfl (exec_loadR 60 _ rfl g1 0 (show ax.eval (.tmp 2) = .pointer (some ⟨g1, 0, none⟩) from t2) hr [.int .u64 a, .int .u64 b, .int .i64 c, .int .i64 d] rfl _ Try.underlying60 rfl (by kernel_rfl)) ⟨_, rfl, tab_put rfl hs rfl rfl, hS.same 5 rfl⟩
    ·
     have s20 : ax.tmps.getD 20 undef = .agg #[.int .u64 a, .int .u64 b, .int .i64 c, .int .i64 d] := (hdone 0 _ rfl rfl).2 _ rfl
     refine wpOp_call (args := #[.agg #[.int .u64 a, .int .u64 b, .int .i64 c, .int .i64 d]]) rfl rfl (exec_call rfl rfl rfl (args1 (show ax.eval (.tmp 20) = .agg #[.int .u64 a, .int .u64 b, .int .i64 c, .int .i64 d] from s20)) Try.func63 (by decide +kernel) rfl) ?_
     · refine (signed_n a b c d wx).mono ?_
       rintro e w' ⟨rfl, b9⟩
       exact ⟨_, rfl, _, rfl, tab_put rfl hs rfl rfl, hS.quiet 6 rfl b9⟩
    ·
     have hr := hS.rowNi 1 rfl
     exact wpOp_val (v := .agg #[.int .u64 p, .int .u64 q, .int .i64 r, .int .i64 t]) (w' := wx) rfl rfl (exec_loadR 60 _ rfl g2 0 (show ax.eval (.tmp 3) = .pointer (some ⟨g2, 0, none⟩) from t3) hr [.int .u64 p, .int .u64 q, .int .i64 r, .int .i64 t] rfl _ Try.underlying60 rfl (by kernel_rfl)) ⟨_, rfl, tab_put rfl hs rfl rfl, hS.same 7 rfl⟩
    ·
     have s22 : ax.tmps.getD 22 undef = .agg #[.int .u64 p, .int .u64 q, .int .i64 r, .int .i64 t] := (hdone 0 _ rfl rfl).2 _ rfl
     refine wpOp_call (args := #[.agg #[.int .u64 p, .int .u64 q, .int .i64 r, .int .i64 t]]) rfl rfl (exec_call rfl rfl rfl (args1 (show ax.eval (.tmp 22) = .agg #[.int .u64 p, .int .u64 q, .int .i64 r, .int .i64 t] from s22)) Try.func63 (by decide +kernel) rfl) ?_
     · refine (signed_n p q r t wx).mono ?_
       rintro e w' ⟨rfl, b9⟩
       exact ⟨_, rfl, _, rfl, tab_put rfl hs rfl rfl, hS.quiet 8 rfl b9⟩
    ·
     have s21 : ax.tmps.getD 21 undef = .agg #[.int .i64 c, .int .i64 d] := (hdone 0 _ rfl rfl).2 _ rfl
     have s23 : ax.tmps.getD 23 undef = .agg #[.int .i64 r, .int .i64 t] := (hdone 1 _ rfl rfl).2 _ rfl
     refine wpOp_call (args := #[.agg #[.int .i64 c, .int .i64 d], .agg #[.int .i64 r, .int .i64 t]]) rfl rfl (exec_call rfl rfl rfl (args2 (show ax.eval (.tmp 21) = .agg #[.int .i64 c, .int .i64 d] from s21) (show ax.eval (.tmp 23) = .agg #[.int .i64 r, .int .i64 t] from s23)) Try.func64 (by decide +kernel) rfl) ?_
     · refine (meetS_n c d r t wx).mono ?_
       rintro e w' ⟨rfl, b9⟩
       exact ⟨_, rfl, _, rfl, tab_put rfl hs rfl rfl, hS.quiet 9 rfl b9⟩
    ·
     have s19 : ax.tmps.getD 19 undef = .agg #[.int .u64 ((Pr.meet ⟨a, b⟩ ⟨p, q⟩).lo), .int .u64 ((Pr.meet ⟨a, b⟩ ⟨p, q⟩).hi)] := (hdone 0 _ rfl rfl).2 _ rfl
     have s24 : ax.tmps.getD 24 undef = .agg #[.int .i64 ((Pr.meet ⟨c, d⟩ ⟨r, t⟩).lo), .int .i64 ((Pr.meet ⟨c, d⟩ ⟨r, t⟩).hi)] := (hdone 1 _ rfl rfl).2 _ rfl
     refine wpOp_call (args := #[.agg #[.int .u64 ((Pr.meet ⟨a, b⟩ ⟨p, q⟩).lo), .int .u64 ((Pr.meet ⟨a, b⟩ ⟨p, q⟩).hi)], .agg #[.int .i64 ((Pr.meet ⟨c, d⟩ ⟨r, t⟩).lo), .int .i64 ((Pr.meet ⟨c, d⟩ ⟨r, t⟩).hi)]]) rfl rfl (exec_call rfl rfl rfl (args2 (show ax.eval (.tmp 19) = .agg #[.int .u64 ((Pr.meet ⟨a, b⟩ ⟨p, q⟩).lo), .int .u64 ((Pr.meet ⟨a, b⟩ ⟨p, q⟩).hi)] from s19) (show ax.eval (.tmp 24) = .agg #[.int .i64 ((Pr.meet ⟨c, d⟩ ⟨r, t⟩).lo), .int .i64 ((Pr.meet ⟨c, d⟩ ⟨r, t⟩).hi)] from s24)) Try.func60 (by decide +kernel) rfl) ?_
     · refine (both_n ((Pr.meet ⟨a, b⟩ ⟨p, q⟩).lo) ((Pr.meet ⟨a, b⟩ ⟨p, q⟩).hi) ((Pr.meet ⟨c, d⟩ ⟨r, t⟩).lo) ((Pr.meet ⟨c, d⟩ ⟨r, t⟩).hi) wx).mono ?_
       rintro e w' ⟨rfl, b9⟩
       exact ⟨_, rfl, _, rfl, tab_put rfl hs rfl rfl, hS.quiet 10 rfl b9⟩
    ·
     have s25 : ax.tmps.getD 25 undef = .agg #[.int .u64 ((Pr.meet ⟨a, b⟩ ⟨p, q⟩).lo), .int .u64 ((Pr.meet ⟨a, b⟩ ⟨p, q⟩).hi), .int .i64 ((Pr.meet ⟨c, d⟩ ⟨r, t⟩).lo), .int .i64 ((Pr.meet ⟨c, d⟩ ⟨r, t⟩).hi)] := (hdone 0 _ rfl rfl).2 _ rfl
     refine wpOp_call (args := #[.agg #[.int .u64 ((Pr.meet ⟨a, b⟩ ⟨p, q⟩).lo), .int .u64 ((Pr.meet ⟨a, b⟩ ⟨p, q⟩).hi), .int .i64 ((Pr.meet ⟨c, d⟩ ⟨r, t⟩).lo), .int .i64 ((Pr.meet ⟨c, d⟩ ⟨r, t⟩).hi)]]) rfl rfl (exec_call rfl rfl rfl (args1 (show ax.eval (.tmp 25) = .agg #[.int .u64 ((Pr.meet ⟨a, b⟩ ⟨p, q⟩).lo), .int .u64 ((Pr.meet ⟨a, b⟩ ⟨p, q⟩).hi), .int .i64 ((Pr.meet ⟨c, d⟩ ⟨r, t⟩).lo), .int .i64 ((Pr.meet ⟨c, d⟩ ⟨r, t⟩).hi)] from s25)) Try.func28 (by decide +kernel) rfl) ?_
     · refine (narrow_n ((Pr.meet ⟨a, b⟩ ⟨p, q⟩).lo) ((Pr.meet ⟨a, b⟩ ⟨p, q⟩).hi) ((Pr.meet ⟨c, d⟩ ⟨r, t⟩).lo) ((Pr.meet ⟨c, d⟩ ⟨r, t⟩).hi) wx HK.out).mono ?_
       rintro e w' ⟨rfl, b9⟩
       exact ⟨_, rfl, _, rfl, tab_put rfl hs rfl rfl, hS.quiet 11 rfl b9⟩
    ·
     have s26 : ax.tmps.getD 26 undef = .tuple #[.agg #[.int .u64 ((Rg.nar ⟨Pr.meet ⟨a, b⟩ ⟨p, q⟩, Pr.meet ⟨c, d⟩ ⟨r, t⟩⟩).u.lo), .int .u64 ((Rg.nar ⟨Pr.meet ⟨a, b⟩ ⟨p, q⟩, Pr.meet ⟨c, d⟩ ⟨r, t⟩⟩).u.hi), .int .i64 ((Rg.nar ⟨Pr.meet ⟨a, b⟩ ⟨p, q⟩, Pr.meet ⟨c, d⟩ ⟨r, t⟩⟩).s.lo), .int .i64 ((Rg.nar ⟨Pr.meet ⟨a, b⟩ ⟨p, q⟩, Pr.meet ⟨c, d⟩ ⟨r, t⟩⟩).s.hi)], .bool (Rg.narB ⟨Pr.meet ⟨a, b⟩ ⟨p, q⟩, Pr.meet ⟨c, d⟩ ⟨r, t⟩⟩)] := (hdone 0 _ rfl rfl).2 _ rfl
     exact wpOp_val (v := .agg #[.int .u64 ((Rg.nar ⟨Pr.meet ⟨a, b⟩ ⟨p, q⟩, Pr.meet ⟨c, d⟩ ⟨r, t⟩⟩).u.lo), .int .u64 ((Rg.nar ⟨Pr.meet ⟨a, b⟩ ⟨p, q⟩, Pr.meet ⟨c, d⟩ ⟨r, t⟩⟩).u.hi), .int .i64 ((Rg.nar ⟨Pr.meet ⟨a, b⟩ ⟨p, q⟩, Pr.meet ⟨c, d⟩ ⟨r, t⟩⟩).s.lo), .int .i64 ((Rg.nar ⟨Pr.meet ⟨a, b⟩ ⟨p, q⟩, Pr.meet ⟨c, d⟩ ⟨r, t⟩⟩).s.hi)]) (w' := wx) rfl rfl (by simp [execOp, Act.eval, s26, go_sem]) ⟨_, rfl, tab_put rfl hs rfl rfl, hS.same 12 rfl⟩
    ·
     have s26 : ax.tmps.getD 26 undef = .tuple #[.agg #[.int .u64 ((Rg.nar ⟨Pr.meet ⟨a, b⟩ ⟨p, q⟩, Pr.meet ⟨c, d⟩ ⟨r, t⟩⟩).u.lo), .int .u64 ((Rg.nar ⟨Pr.meet ⟨a, b⟩ ⟨p, q⟩, Pr.meet ⟨c, d⟩ ⟨r, t⟩⟩).u.hi), .int .i64 ((Rg.nar ⟨Pr.meet ⟨a, b⟩ ⟨p, q⟩, Pr.meet ⟨c, d⟩ ⟨r, t⟩⟩).s.lo), .int .i64 ((Rg.nar ⟨Pr.meet ⟨a, b⟩ ⟨p, q⟩, Pr.meet ⟨c, d⟩ ⟨r, t⟩⟩).s.hi)], .bool (Rg.narB ⟨Pr.meet ⟨a, b⟩ ⟨p, q⟩, Pr.meet ⟨c, d⟩ ⟨r, t⟩⟩)] := (hdone 0 _ rfl rfl).2 _ rfl
     exact wpOp_val (v := .bool (Rg.narB ⟨Pr.meet ⟨a, b⟩ ⟨p, q⟩, Pr.meet ⟨c, d⟩ ⟨r, t⟩⟩)) (w' := wx) rfl rfl (by simp [execOp, Act.eval, s26, go_sem]) ⟨_, rfl, tab_put rfl hs rfl rfl, hS.same 13 rfl⟩
    ·
     have s27 : ax.tmps.getD 27 undef = .agg #[.int .u64 ((Rg.nar ⟨Pr.meet ⟨a, b⟩ ⟨p, q⟩, Pr.meet ⟨c, d⟩ ⟨r, t⟩⟩).u.lo), .int .u64 ((Rg.nar ⟨Pr.meet ⟨a, b⟩ ⟨p, q⟩, Pr.meet ⟨c, d⟩ ⟨r, t⟩⟩).u.hi), .int .i64 ((Rg.nar ⟨Pr.meet ⟨a, b⟩ ⟨p, q⟩, Pr.meet ⟨c, d⟩ ⟨r, t⟩⟩).s.lo), .int .i64 ((Rg.nar ⟨Pr.meet ⟨a, b⟩ ⟨p, q⟩, Pr.meet ⟨c, d⟩ ⟨r, t⟩⟩).s.hi)] := (hdone 0 _ rfl rfl).2 _ rfl
     have hr := hS.rowFi 2 rfl hfi
     exact wpOp_skp (w' := wx.setRow g3 #[.int .u64 ((Rg.nar ⟨Pr.meet ⟨a, b⟩ ⟨p, q⟩, Pr.meet ⟨c, d⟩ ⟨r, t⟩⟩).u.lo), .int .u64 ((Rg.nar ⟨Pr.meet ⟨a, b⟩ ⟨p, q⟩, Pr.meet ⟨c, d⟩ ⟨r, t⟩⟩).u.hi), .int .i64 ((Rg.nar ⟨Pr.meet ⟨a, b⟩ ⟨p, q⟩, Pr.meet ⟨c, d⟩ ⟨r, t⟩⟩).s.lo), .int .i64 ((Rg.nar ⟨Pr.meet ⟨a, b⟩ ⟨p, q⟩, Pr.meet ⟨c, d⟩ ⟨r, t⟩⟩).s.hi)]) rfl rfl (exec_storeR 60 _ _ rfl g3 #[.int .u64 ((Rg.nar ⟨Pr.meet ⟨a, b⟩ ⟨p, q⟩, Pr.meet ⟨c, d⟩ ⟨r, t⟩⟩).u.lo), .int .u64 ((Rg.nar ⟨Pr.meet ⟨a, b⟩ ⟨p, q⟩, Pr.meet ⟨c, d⟩ ⟨r, t⟩⟩).u.hi), .int .i64 ((Rg.nar ⟨Pr.meet ⟨a, b⟩ ⟨p, q⟩, Pr.meet ⟨c, d⟩ ⟨r, t⟩⟩).s.lo), .int .i64 ((Rg.nar ⟨Pr.meet ⟨a, b⟩ ⟨p, q⟩, Pr.meet ⟨c, d⟩ ⟨r, t⟩⟩).s.hi)] (show ax.eval (.tmp 4) = .pointer (some ⟨g3, 0, none⟩) from t4) (show ax.eval (.tmp 27) = .agg #[.int .u64 ((Rg.nar ⟨Pr.meet ⟨a, b⟩ ⟨p, q⟩, Pr.meet ⟨c, d⟩ ⟨r, t⟩⟩).u.lo), .int .u64 ((Rg.nar ⟨Pr.meet ⟨a, b⟩ ⟨p, q⟩, Pr.meet ⟨c, d⟩ ⟨r, t⟩⟩).u.hi), .int .i64 ((Rg.nar ⟨Pr.meet ⟨a, b⟩ ⟨p, q⟩, Pr.meet ⟨c, d⟩ ⟨r, t⟩⟩).s.lo), .int .i64 ((Rg.nar ⟨Pr.meet ⟨a, b⟩ ⟨p, q⟩, Pr.meet ⟨c, d⟩ ⟨r, t⟩⟩).s.hi)] from s27) hr (by kernel_rfl) rfl (by simp [Value.oneCell'])) ⟨undef, rfl, trivial, hS.storeBi 14 2 rfl q_g3 rfl ⟨(show g1 ≠ g3 by omega), (show g2 ≠ g3 by omega), trivial⟩ (stored_setRow wx g3 _ _ _ hr)⟩
    ·
     have s28 : ax.tmps.getD 28 undef = .bool (Rg.narB ⟨Pr.meet ⟨a, b⟩ ⟨p, q⟩, Pr.meet ⟨c, d⟩ ⟨r, t⟩⟩) := (hdone 0 _ rfl rfl).2 _ rfl
     exact wpOp_val (v := .bool (Rg.narB ⟨Pr.meet ⟨a, b⟩ ⟨p, q⟩, Pr.meet ⟨c, d⟩ ⟨r, t⟩⟩)) (w' := wx) rfl rfl (by (revert s28; generalize (.bool (Rg.narB ⟨Pr.meet ⟨a, b⟩ ⟨p, q⟩, Pr.meet ⟨c, d⟩ ⟨r, t⟩⟩) : Value) = y0; intro s28); simp [execOp, Act.eval, s28]) ⟨_, rfl, tab_put rfl hs rfl rfl, hS.same 15 rfl⟩
  intro a3 w3 fl d3 z3 rest3 R3 hfl hS
  obtain ⟨B3, n3, hBs, hAs, hPs⟩ := hS.finish hfl rfl
  replace d3 := d3.trans d2
  replace z3 := z3.trans z2
  obtain ⟨⟨-, b_g1_3⟩, ⟨-, b_g2_3⟩, ⟨-, b_g3_3⟩, -⟩ := hBs
  have s4_3 := (rest3 4 (not_of (by kernel_rfl))).trans s4_2
  have s5_3 : a3.tmps.getD 5 undef = .bool (Rg.narB ⟨Pr.meet ⟨a, b⟩ ⟨p, q⟩, Pr.meet ⟨c, d⟩ ⟨r, t⟩⟩) := R3 15 _ rfl
  clear R3 rest3 hS hfl hPs hAs
  clear s2_2 s3_2 s4_2 s5_2 s13_2 b_g1_2 b_g2_2 b_g3_2 d2 z2
  refine wp_ret ?_
  try simp only [Exit.inBlock, Exit.then]
  refine bodyPost_ret (res_ct (fn := Try.f22) rfl s4_3 (load_row 60 b_g3_3 Try.underlying60 rfl (by kernel_rfl)) s5_3) d3 ?_
  have HE : Value.tuple #[.agg #[.int .u64 ((Rg.nar ⟨Pr.meet ⟨a, b⟩ ⟨p, q⟩, Pr.meet ⟨c, d⟩ ⟨r, t⟩⟩).u.lo), .int .u64 ((Rg.nar ⟨Pr.meet ⟨a, b⟩ ⟨p, q⟩, Pr.meet ⟨c, d⟩ ⟨r, t⟩⟩).u.hi), .int .i64 ((Rg.nar ⟨Pr.meet ⟨a, b⟩ ⟨p, q⟩, Pr.meet ⟨c, d⟩ ⟨r, t⟩⟩).s.lo), .int .i64 ((Rg.nar ⟨Pr.meet ⟨a, b⟩ ⟨p, q⟩, Pr.meet ⟨c, d⟩ ⟨r, t⟩⟩).s.hi)], .bool (Rg.narB ⟨Pr.meet ⟨a, b⟩ ⟨p, q⟩, Pr.meet ⟨c, d⟩ ⟨r, t⟩⟩)] = .tuple #[Rg.val (Rg.meetR ⟨⟨a, b⟩, ⟨c, d⟩⟩ ⟨⟨p, q⟩, ⟨r, t⟩⟩), .bool (Rg.meetB ⟨⟨a, b⟩, ⟨c, d⟩⟩ ⟨⟨p, q⟩, ⟨r, t⟩⟩)] := by unfold Rg.meetR Rg.meetB; rw [Ffk1.out, Ffk2.out]; rfl
  exact ⟨retV HE, B3⟩
end Go.Proofs.Ytfededcmelhjjaa.Bnd
