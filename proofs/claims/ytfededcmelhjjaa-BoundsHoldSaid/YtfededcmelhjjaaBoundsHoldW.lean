/-
  The law BoundsHold. (Written by gen_bndd.py.)
-/
import Derived.Test.YtfededcmelhjjaaBndW
import Derived.Test.YtfededcmelhjjaaBndO
import Derived.Test.YtfededcmelhjjaaBitsVa
namespace Go.Proofs.Ytfededcmelhjjaa.Bnd
open Go.RowKit
set_option linter.unusedVariables false
set_option linter.unusedSimpArgs false
set_option linter.unnecessarySimpa false
set_option maxRecDepth 100000

set_option maxHeartbeats 1000000 in
theorem cut32_any (v : Int) (W : World) (h0 : 0 ≤ v) (h1 : v < 18446744073709551616) : Calls Try.prog 47 #[.int .u64 v, .int .i8 32] W fun e w' => e = .returned (.int .u64 (v % 4294967296)) ∧ Below W.heap.size W w' := by
  have e1 : bits .and .u64 v 4294967295 = v % 4294967296 := by go_bits2
  have H := Lib.hid e1
  clear h0 h1 e1
  go_enter Try.func47, Try.ntmps47
  go_wp2
  all_goals go_returns
  all_goals refine ⟨retI H.out, ?_⟩
  all_goals (repeat' (first | exact Below.refl _ _ | apply below_new))

set_option maxHeartbeats 8000000 in
theorem hold_law (op a b c d p q r t v u : Int) (W : World) (ha : Rg.Ok ⟨⟨a, b⟩, ⟨c, d⟩⟩) (hb : Rg.Ok ⟨⟨p, q⟩, ⟨r, t⟩⟩) (v0 : 0 ≤ v) (v1 : v < 18446744073709551616) (u0 : 0 ≤ u) (u1 : u < 18446744073709551616) : Calls Try.prog 8 #[.int .i8 op, .agg #[.int .u64 a, .int .u64 b, .int .i64 c, .int .i64 d], .agg #[.int .u64 p, .int .u64 q, .int .i64 r, .int .i64 t], .int .u64 v, .int .u64 u] W fun e w' => e = .returned (.bool true) ∧ Below W.heap.size W w' := by
  have HA := Lib.hid ha
  have HB := Lib.hid hb
  have HN := Lib.hid (And.intro (And.intro v0 v1) (And.intro u0 u1))
  have KN : Hid (Rg.hasB ⟨⟨a, b⟩, ⟨c, d⟩⟩ v = true → Rg.narB ⟨⟨a, b⟩, ⟨c, d⟩⟩ = true ∧ Rg.hasB (Rg.nar ⟨⟨a, b⟩, ⟨c, d⟩⟩) v = true) := Lib.hid (fun h => has_nar ha v0 v1 h)
  have KL : Hid (Rg.hasB ⟨⟨a, b⟩, ⟨c, d⟩⟩ v = true → Rg.hasB (Rg.low ⟨⟨a, b⟩, ⟨c, d⟩⟩) (v % 4294967296) = true) := Lib.hid (fun h => low_has ha h v0 v1)
  have KD : Hid (Rg.hasB ⟨⟨a, b⟩, ⟨c, d⟩⟩ v = true → Rg.hasB ⟨⟨p, q⟩, ⟨r, t⟩⟩ u = true → ((doE op 64) == 0) = true → Rg.hasB (Rg.doR op ⟨⟨a, b⟩, ⟨c, d⟩⟩ ⟨⟨p, q⟩, ⟨r, t⟩⟩) (doI op 64 v u) = true) := Lib.hid (fun h1 h2 h => by
    have e : 0 ≤ op ∧ op ≤ 12 := by
      by_cases e : 0 ≤ op ∧ op ≤ 12 ∧ longB 64 = true
      · exact ⟨e.1, e.2.1⟩
      · unfold doE at h; rw [if_neg e] at h; cases h
    exact do_has ha hb h1 h2 v0 v1 u0 u1 e.1 e.2)
  have KM0 : Hid (Rg.hasB ⟨⟨a, b⟩, ⟨c, d⟩⟩ v = true → Rg.hasB ⟨⟨p, q⟩, ⟨r, t⟩⟩ u = true → Rg.meetB ⟨⟨a, b⟩, ⟨c, d⟩⟩ ⟨⟨p, q⟩, ⟨r, t⟩⟩ = false → Rg.hasB ⟨⟨a, b⟩, ⟨c, d⟩⟩ u = false) := Lib.hid (fun h1 h2 h => by rw [meet_has ha hb h2 u0 u1 (has_may h1), h]; rfl)
  have KM1 : Hid (Rg.hasB ⟨⟨a, b⟩, ⟨c, d⟩⟩ v = true → Rg.hasB ⟨⟨p, q⟩, ⟨r, t⟩⟩ u = true → Rg.meetB ⟨⟨a, b⟩, ⟨c, d⟩⟩ ⟨⟨p, q⟩, ⟨r, t⟩⟩ = true → Rg.hasB (Rg.meetR ⟨⟨a, b⟩, ⟨c, d⟩⟩ ⟨⟨p, q⟩, ⟨r, t⟩⟩) u = Rg.hasB ⟨⟨a, b⟩, ⟨c, d⟩⟩ u) := Lib.hid (fun h1 h2 h => by
    have e := meet_has ha hb h2 u0 u1 (has_may h1)
    rw [h, Bool.true_and] at e
    exact e.symm)
  clear ha hb v0 v1 u0 u1
  refine calls_abs Try.func8 rfl (Nat.le_of_ble_eq_true rfl) ?_
  intro a0 d0 z0 h0
  have z0 : a0.tmps.size = 108 := z0
  have s0_0 : a0.tmps.getD 0 undef = .int .i8 op := h0 0 (Nat.le_of_ble_eq_true rfl)
  have s1_0 : a0.tmps.getD 1 undef = .agg #[.int .u64 a, .int .u64 b, .int .i64 c, .int .i64 d] := h0 1 (Nat.le_of_ble_eq_true rfl)
  have s2_0 : a0.tmps.getD 2 undef = .agg #[.int .u64 p, .int .u64 q, .int .i64 r, .int .i64 t] := h0 2 (Nat.le_of_ble_eq_true rfl)
  have s3_0 : a0.tmps.getD 3 undef = .int .u64 v := h0 3 (Nat.le_of_ble_eq_true rfl)
  have s4_0 : a0.tmps.getD 4 undef = .int .u64 u := h0 4 (Nat.le_of_ble_eq_true rfl)
  clear h0
  have B0 : Below W.heap.size W W := Below.refl _ _
  refine wp_seq ?_
  refine wp_regx (SX W W.heap.size [] [⟨0, 6, 60, (cR a b c d), none, #[]⟩, ⟨1, 7, 60, (cR p q r t), none, #[]⟩]) (TabX [fun _ => True, fun _ => True, fun vx => vx = .bool false]) (by kernel_rfl) (back_of (by kernel_rfl)) (dst_of (by kernel_rfl)) (in_ofz (by kernel_rfl) z0) (fun fl w1 hfl hw => SX.start' hw B0 hfl rfl trivial) ?h1 ?_
  case h1 =>
    intro ix ox ax wx fl ho hS hfi clo hsz hrest hdone hund
    have t1 := (hrest 1 (not_of (by kernel_rfl))).trans s1_0
    have t2 := (hrest 2 (not_of (by kernel_rfl))).trans s2_0
    have hs : ax.tmps.size = 108 := hsz.trans z0
    have hi : ix < 3 := (Array.getElem?_eq_some_iff.1 ho).1
    clear hrest hsz hund
    obtain rfl | rfl | rfl : ix = 0 ∨ ix = 1 ∨ ix = 2 := by omega
    all_goals obtain rfl := Option.some.inj (show some _ = some ox from ho)
    ·
     refine wpOp_val (v := .pointer (some ⟨wx.heap.size, 0, none⟩)) (w' := wx.alloc (.cells #[.int .u64 a, .int .u64 b, .int .i64 c, .int .i64 d] 60)) rfl rfl ?_ ⟨_, rfl, trivial, hS.alloc 0 6 60 #[.int .u64 a, .int .u64 b, .int .i64 c, .int .i64 d] [] [⟨1, 7, 60, (cR p q r t), none, #[]⟩] (none) #[] rfl rfl rfl (by rw [hs]; omega) trivial⟩
     · simp [execOp, Act.eval, t1, go_sem]
    ·
     refine wpOp_val (v := .pointer (some ⟨wx.heap.size, 0, none⟩)) (w' := wx.alloc (.cells #[.int .u64 p, .int .u64 q, .int .i64 r, .int .i64 t] 60)) rfl rfl ?_ ⟨_, rfl, trivial, hS.alloc 1 7 60 #[.int .u64 p, .int .u64 q, .int .i64 r, .int .i64 t] [⟨0, 6, 60, (cR a b c d), none, #[]⟩] [] (none) #[] rfl rfl rfl (by rw [hs]; omega) trivial⟩
     · simp [execOp, Act.eval, t2, go_sem]
    ·
     exact wpOp_val (v := .bool false) (w' := wx) rfl rfl (by simp [execOp, Act.eval]) ⟨_, rfl, tab_put rfl hs rfl rfl, hS.same 2 rfl⟩
  intro a1 w1 fl d1 z1 rest1 R1 hfl hS
  obtain ⟨B1, n1, hBs, hAs, hPs⟩ := hS.finish hfl rfl
  replace d1 := d1.trans d0
  replace z1 := z1.trans z0
  obtain ⟨⟨g1, u_g1, q_g1, b_g1_1⟩, ⟨g2, u_g2, q_g2, b_g2_1⟩, -⟩ := hAs
  replace u_g1 : a1.tmps.getD 6 undef = .pointer (some ⟨g1, 0, none⟩) := u_g1
  have m_g1 : W.heap.size ≤ g1 := q_g1
  replace q_g1 : W.heap.size ≤ g1 := Nat.le_trans B0.size q_g1
  replace u_g2 : a1.tmps.getD 7 undef = .pointer (some ⟨g2, 0, none⟩) := u_g2
  have m_g2 : W.heap.size ≤ g2 := q_g2
  replace q_g2 : W.heap.size ≤ g2 := Nat.le_trans B0.size q_g2
  simp only [List.pairwise_cons, List.mem_cons, List.not_mem_nil, or_false, forall_eq_or_imp, forall_eq] at hPs
  have ne_g1_g2 : g1 ≠ g2 := by
    have hn : slotOf a1 6 ≠ slotOf a1 7 := hPs.1
    intro e; subst e; exact hn (Eq.trans u_g1 u_g2.symm)
  have s0_1 := (rest1 0 (not_of (by kernel_rfl))).trans s0_0
  have s3_1 := (rest1 3 (not_of (by kernel_rfl))).trans s3_0
  have s4_1 := (rest1 4 (not_of (by kernel_rfl))).trans s4_0
  have s10_1 : a1.tmps.getD 10 undef = .bool false := R1 2 _ rfl
  clear R1 rest1 hS hfl hPs hBs
  clear s0_0 s1_0 s2_0 s3_0 s4_0 d0 z0
  refine wp_seq ?_
  refine wp_seq ?_
  cases fk1 : Rg.hasB ⟨⟨a, b⟩, ⟨c, d⟩⟩ v
  case false =>
   have Ffk1 := Lib.hid fk1; clear fk1
   refine wp_regx (SX W w1.heap.size [⟨g1, 60, (cR a b c d), none, #[]⟩, ⟨g2, 60, (cR p q r t), none, #[]⟩] []) (TabX [fun vx => vx = .agg #[.int .u64 a, .int .u64 b, .int .i64 c, .int .i64 d], fun vx => vx = .int .u64 v, fun vx => vx = .bool false, fun vx => vx = .bool true, fun vx => vx = .bool true, fun vx => vx = undef, fun vx => vx = undef, fun vx => vx = undef, fun vx => vx = undef, fun vx => vx = .bool true]) (by kernel_rfl) (back_of (by kernel_rfl)) (dst_of (by kernel_rfl)) (in_ofz (by kernel_rfl) z1) (fun fl w1 hfl hw => SX.start' hw B1 hfl rfl ⟨b_g1_1, b_g2_1, trivial⟩) ?h2 ?_
   case h2 =>
     intro ix ox ax wx fl ho hS hfi clo hsz hrest hdone hund
     have t3 := (hrest 3 (not_of (by kernel_rfl))).trans s3_1
     have t4 := (hrest 4 (not_of (by kernel_rfl))).trans s4_1
     have t6 := (hrest 6 (not_of (by kernel_rfl))).trans u_g1
     have t7 := (hrest 7 (not_of (by kernel_rfl))).trans u_g2
     have hs : ax.tmps.size = 108 := hsz.trans z1
     have hi : ix < 10 := (Array.getElem?_eq_some_iff.1 ho).1
     clear hrest hsz hund
     obtain rfl | rfl | rfl | rfl | rfl | rfl | rfl | rfl | rfl | rfl : ix = 0 ∨ ix = 1 ∨ ix = 2 ∨ ix = 3 ∨ ix = 4 ∨ ix = 5 ∨ ix = 6 ∨ ix = 7 ∨ ix = 8 ∨ ix = 9 := by omega
     all_goals obtain rfl := Option.some.inj (show some _ = some ox from ho)
     ·
      have hr := hS.rowNi 0 rfl
      exact wpOp_val (v := .agg #[.int .u64 a, .int .u64 b, .int .i64 c, .int .i64 d]) (w' := wx) rfl rfl (exec_loadR 60 _ rfl g1 0 (show ax.eval (.tmp 6) = .pointer (some ⟨g1, 0, none⟩) from t6) hr [.int .u64 a, .int .u64 b, .int .i64 c, .int .i64 d] rfl _ Try.underlying60 rfl (by kernel_rfl)) ⟨_, rfl, tab_put rfl hs rfl rfl, hS.same 0 rfl⟩
     ·
      exact wpOp_val (v := .int .u64 v) (w' := wx) rfl rfl (by simp [execOp, Act.eval, t3]) ⟨_, rfl, tab_put rfl hs rfl rfl, hS.same 1 rfl⟩
     ·
      have s17 : ax.tmps.getD 17 undef = .agg #[.int .u64 a, .int .u64 b, .int .i64 c, .int .i64 d] := (hdone 0 _ rfl rfl).2 _ rfl
      have s18 : ax.tmps.getD 18 undef = .int .u64 v := (hdone 1 _ rfl rfl).2 _ rfl
      refine wpOp_call (args := #[.agg #[.int .u64 a, .int .u64 b, .int .i64 c, .int .i64 d], .int .u64 v]) rfl rfl (exec_call rfl rfl rfl (args2 (show ax.eval (.tmp 17) = .agg #[.int .u64 a, .int .u64 b, .int .i64 c, .int .i64 d] from s17) (show ax.eval (.tmp 18) = .int .u64 v from s18)) Try.func36 (by decide +kernel) rfl) ?_
      · refine (has_n a b c d v wx).mono ?_
        rintro e w' ⟨rfl, b9⟩
        exact ⟨_, rfl, _, rfl, tab_put rfl hs rfl (congrArg Value.bool Ffk1.out), hS.quiet 2 rfl b9⟩
     ·
      have s19 : ax.tmps.getD 19 undef = .bool false := (hdone 0 _ rfl rfl).2 _ rfl
      exact wpOp_val (v := .bool true) (w' := wx) rfl rfl (by simp [execOp, Act.eval, s19, go_sem]) ⟨_, rfl, tab_put rfl hs rfl rfl, hS.same 3 rfl⟩
     ·
      have s20 : ax.tmps.getD 20 undef = .bool true := (hdone 0 _ rfl rfl).2 _ rfl
      exact wpOp_val (v := .bool true) (w' := wx) rfl rfl (by simp [execOp, Act.eval, s20]) ⟨_, rfl, tab_put rfl hs rfl rfl, hS.same 4 rfl⟩
     ·
      have hg : ax.tmps.getD 21 undef = .bool true := (hdone 0 _ rfl rfl).2 _ rfl
      exact wpOp_no rfl (wanted_no 4 21 true hg (by rw [hs]; omega) rfl rfl rfl rfl) ⟨_, rfl, tab_put rfl hs rfl rfl, hS.same 5 rfl⟩
     ·
      have hg : ax.tmps.getD 21 undef = .bool true := (hdone 0 _ rfl rfl).2 _ rfl
      exact wpOp_no rfl (wanted_no 4 21 true hg (by rw [hs]; omega) rfl rfl rfl rfl) ⟨_, rfl, tab_put rfl hs rfl rfl, hS.same 6 rfl⟩
     ·
      have hg : ax.tmps.getD 21 undef = .bool true := (hdone 2 _ rfl rfl).2 _ rfl
      exact wpOp_no rfl (wanted_no 4 21 true hg (by rw [hs]; omega) rfl rfl rfl rfl) ⟨_, rfl, tab_put rfl hs rfl rfl, hS.same 7 rfl⟩
     ·
      have hg : ax.tmps.getD 21 undef = .bool true := (hdone 1 _ rfl rfl).2 _ rfl
      exact wpOp_no rfl (wanted_no 4 21 true hg (by rw [hs]; omega) rfl rfl rfl rfl) ⟨_, rfl, tab_put rfl hs rfl rfl, hS.same 8 rfl⟩
     ·
      have s21 : ax.tmps.getD 21 undef = .bool true := (hdone 0 _ rfl rfl).2 _ rfl
      have s25 : ax.tmps.getD 25 undef = undef := (hdone 1 _ rfl rfl).2 _ rfl
      exact wpOp_val (v := .bool true) (w' := wx) rfl rfl (by simp [execOp, Act.eval, s21, s25, go_sem]) ⟨_, rfl, tab_put rfl hs rfl rfl, hS.same 9 rfl⟩
   intro a2 w2 fl d2 z2 rest2 R2 hfl hS
   obtain ⟨B2, n2, hBs, hAs, hPs⟩ := hS.finish hfl rfl
   replace d2 := d2.trans d1
   replace z2 := z2.trans z1
   obtain ⟨⟨l_g1_2, b_g1_2⟩, ⟨l_g2_2, b_g2_2⟩, -⟩ := hBs
   replace l_g1_2 : g1 < w1.heap.size := l_g1_2
   replace l_g2_2 : g2 < w1.heap.size := l_g2_2
   have s0_2 := (rest2 0 (not_of (by kernel_rfl))).trans s0_1
   have s3_2 := (rest2 3 (not_of (by kernel_rfl))).trans s3_1
   have s4_2 := (rest2 4 (not_of (by kernel_rfl))).trans s4_1
   have s6_2 := (rest2 6 (not_of (by kernel_rfl))).trans u_g1
   have s7_2 := (rest2 7 (not_of (by kernel_rfl))).trans u_g2
   have s10_2 := (rest2 10 (not_of (by kernel_rfl))).trans s10_1
   have s26_2 : a2.tmps.getD 26 undef = .bool true := R2 9 _ rfl
   clear R2 rest2 hS hfl hPs hAs
   clear u_g1 u_g2 s0_1 s3_1 s4_1 s10_1 b_g1_1 b_g2_1 d1 z1
   refine wp_cond_true (show a2.tmps.getD 26 undef = .bool true from s26_2) ?_
   refine wp_seq ?_
   refine wp_regx (SX W w2.heap.size [⟨g1, 60, (cR a b c d), none, #[]⟩, ⟨g2, 60, (cR p q r t), none, #[]⟩] []) (TabX [fun vx => vx = .bool true, fun vx => vx = .bool true]) (by kernel_rfl) (back_of (by kernel_rfl)) (dst_of (by kernel_rfl)) (in_ofz (by kernel_rfl) z2) (fun fl w1 hfl hw => SX.start' hw B2 hfl rfl ⟨b_g1_2, b_g2_2, trivial⟩) ?h3 ?_
   case h3 =>
     intro ix ox ax wx fl ho hS hfi clo hsz hrest hdone hund
     have hs : ax.tmps.size = 108 := hsz.trans z2
     have hi : ix < 2 := (Array.getElem?_eq_some_iff.1 ho).1
     clear hrest hsz hund
     obtain rfl | rfl : ix = 0 ∨ ix = 1 := by omega
     all_goals obtain rfl := Option.some.inj (show some _ = some ox from ho)
     ·
      refine wpOp_call (args := #[]) rfl rfl (exec_call rfl rfl rfl (args0 ) Try.func46 (by decide +kernel) rfl) ?_
      · refine (wakes_n wx).mono ?_
        rintro e w' ⟨rfl, b9⟩
        exact ⟨_, rfl, _, rfl, tab_put rfl hs rfl rfl, hS.quiet 0 rfl b9⟩
     ·
      have s27 : ax.tmps.getD 27 undef = .bool true := (hdone 0 _ rfl rfl).2 _ rfl
      exact wpOp_val (v := .bool true) (w' := wx) rfl rfl (by simp [execOp, Act.eval, s27]) ⟨_, rfl, tab_put rfl hs rfl rfl, hS.same 1 rfl⟩
   intro a3 w3 fl d3 z3 rest3 R3 hfl hS
   obtain ⟨B3, n3, hBs, hAs, hPs⟩ := hS.finish hfl rfl
   replace d3 := d3.trans d2
   replace z3 := z3.trans z2
   obtain ⟨⟨-, b_g1_3⟩, ⟨-, b_g2_3⟩, -⟩ := hBs
   have s0_3 := (rest3 0 (not_of (by kernel_rfl))).trans s0_2
   have s3_3 := (rest3 3 (not_of (by kernel_rfl))).trans s3_2
   have s4_3 := (rest3 4 (not_of (by kernel_rfl))).trans s4_2
   have s6_3 := (rest3 6 (not_of (by kernel_rfl))).trans s6_2
   have s7_3 := (rest3 7 (not_of (by kernel_rfl))).trans s7_2
   have s10_3 : a3.tmps.getD 10 undef = .bool true := R3 1 _ rfl
   clear R3 rest3 hS hfl hPs hAs
   clear s0_2 s3_2 s4_2 s6_2 s7_2 s10_2 s26_2 b_g1_2 b_g2_2 d2 z2
   refine wp_ret ?_
   try simp only [Exit.inBlock, Exit.then]
   refine bodyPost_ret (res_t (fn := Try.f8) rfl s10_3) d3 ?_
   exact ⟨rfl, B3⟩
  have Ffk1 := Lib.hid fk1; clear fk1
  cases fk2 : Rg.hasB ⟨⟨p, q⟩, ⟨r, t⟩⟩ u
  case false =>
   have Ffk2 := Lib.hid fk2; clear fk2
   refine wp_regx (SX W w1.heap.size [⟨g1, 60, (cR a b c d), none, #[]⟩, ⟨g2, 60, (cR p q r t), none, #[]⟩] []) (TabX [fun vx => vx = .agg #[.int .u64 a, .int .u64 b, .int .i64 c, .int .i64 d], fun vx => vx = .int .u64 v, fun vx => vx = .bool true, fun vx => vx = .bool false, fun vx => vx = .bool false, fun vx => vx = .agg #[.int .u64 p, .int .u64 q, .int .i64 r, .int .i64 t], fun vx => vx = .int .u64 u, fun vx => vx = .bool false, fun vx => vx = .bool true, fun vx => vx = .bool true]) (by kernel_rfl) (back_of (by kernel_rfl)) (dst_of (by kernel_rfl)) (in_ofz (by kernel_rfl) z1) (fun fl w1 hfl hw => SX.start' hw B1 hfl rfl ⟨b_g1_1, b_g2_1, trivial⟩) ?h4 ?_
   case h4 =>
     intro ix ox ax wx fl ho hS hfi clo hsz hrest hdone hund
     have t3 := (hrest 3 (not_of (by kernel_rfl))).trans s3_1
     have t4 := (hrest 4 (not_of (by kernel_rfl))).trans s4_1
     have t6 := (hrest 6 (not_of (by kernel_rfl))).trans u_g1
     have t7 := (hrest 7 (not_of (by kernel_rfl))).trans u_g2
     have hs : ax.tmps.size = 108 := hsz.trans z1
     have hi : ix < 10 := (Array.getElem?_eq_some_iff.1 ho).1
     clear hrest hsz hund
     obtain rfl | rfl | rfl | rfl | rfl | rfl | rfl | rfl | rfl | rfl : ix = 0 ∨ ix = 1 ∨ ix = 2 ∨ ix = 3 ∨ ix = 4 ∨ ix = 5 ∨ ix = 6 ∨ ix = 7 ∨ ix = 8 ∨ ix = 9 := by omega
     all_goals obtain rfl := Option.some.inj (show some _ = some ox from ho)
     ·
      have hr := hS.rowNi 0 rfl
      exact wpOp_val (v := .agg #[.int .u64 a, .int .u64 b, .int .i64 c, .int .i64 d]) (w' := wx) rfl rfl (exec_loadR 60 _ rfl g1 0 (show ax.eval (.tmp 6) = .pointer (some ⟨g1, 0, none⟩) from t6) hr [.int .u64 a, .int .u64 b, .int .i64 c, .int .i64 d] rfl _ Try.underlying60 rfl (by kernel_rfl)) ⟨_, rfl, tab_put rfl hs rfl rfl, hS.same 0 rfl⟩
     ·
      exact wpOp_val (v := .int .u64 v) (w' := wx) rfl rfl (by simp [execOp, Act.eval, t3]) ⟨_, rfl, tab_put rfl hs rfl rfl, hS.same 1 rfl⟩
     ·
      have s17 : ax.tmps.getD 17 undef = .agg #[.int .u64 a, .int .u64 b, .int .i64 c, .int .i64 d] := (hdone 0 _ rfl rfl).2 _ rfl
      have s18 : ax.tmps.getD 18 undef = .int .u64 v := (hdone 1 _ rfl rfl).2 _ rfl
      refine wpOp_call (args := #[.agg #[.int .u64 a, .int .u64 b, .int .i64 c, .int .i64 d], .int .u64 v]) rfl rfl (exec_call rfl rfl rfl (args2 (show ax.eval (.tmp 17) = .agg #[.int .u64 a, .int .u64 b, .int .i64 c, .int .i64 d] from s17) (show ax.eval (.tmp 18) = .int .u64 v from s18)) Try.func36 (by decide +kernel) rfl) ?_
      · refine (has_n a b c d v wx).mono ?_
        rintro e w' ⟨rfl, b9⟩
        exact ⟨_, rfl, _, rfl, tab_put rfl hs rfl (congrArg Value.bool Ffk1.out), hS.quiet 2 rfl b9⟩
     ·
      have s19 : ax.tmps.getD 19 undef = .bool true := (hdone 0 _ rfl rfl).2 _ rfl
      exact wpOp_val (v := .bool false) (w' := wx) rfl rfl (by simp [execOp, Act.eval, s19, go_sem]) ⟨_, rfl, tab_put rfl hs rfl rfl, hS.same 3 rfl⟩
     ·
      have s20 : ax.tmps.getD 20 undef = .bool false := (hdone 0 _ rfl rfl).2 _ rfl
      exact wpOp_val (v := .bool false) (w' := wx) rfl rfl (by simp [execOp, Act.eval, s20]) ⟨_, rfl, tab_put rfl hs rfl rfl, hS.same 4 rfl⟩
     ·
      have hg : ax.tmps.getD 21 undef = .bool false := (hdone 0 _ rfl rfl).2 _ rfl
      have hr := hS.rowNi 1 rfl
      exact wpOp_valw (v := .agg #[.int .u64 p, .int .u64 q, .int .i64 r, .int .i64 t]) (w' := wx) rfl (wanted_yes 4 21 false hg (by rw [hs]; omega) rfl rfl rfl rfl) (exec_loadR 60 _ rfl g2 0 (show ax.eval (.tmp 7) = .pointer (some ⟨g2, 0, none⟩) from t7) hr [.int .u64 p, .int .u64 q, .int .i64 r, .int .i64 t] rfl _ Try.underlying60 rfl (by kernel_rfl)) ⟨_, rfl, tab_put rfl hs rfl rfl, hS.same 5 rfl⟩
     ·
      have hg : ax.tmps.getD 21 undef = .bool false := (hdone 0 _ rfl rfl).2 _ rfl
      exact wpOp_valw (v := .int .u64 u) (w' := wx) rfl (wanted_yes 4 21 false hg (by rw [hs]; omega) rfl rfl rfl rfl) (by simp [execOp, Act.eval, t4]) ⟨_, rfl, tab_put rfl hs rfl rfl, hS.same 6 rfl⟩
     ·
      have hg : ax.tmps.getD 21 undef = .bool false := (hdone 2 _ rfl rfl).2 _ rfl
      have s22 : ax.tmps.getD 22 undef = .agg #[.int .u64 p, .int .u64 q, .int .i64 r, .int .i64 t] := (hdone 0 _ rfl rfl).2 _ rfl
      have s23 : ax.tmps.getD 23 undef = .int .u64 u := (hdone 1 _ rfl rfl).2 _ rfl
      refine wpOp_callw (args := #[.agg #[.int .u64 p, .int .u64 q, .int .i64 r, .int .i64 t], .int .u64 u]) rfl (wanted_yes 4 21 false hg (by rw [hs]; omega) rfl rfl rfl rfl) (exec_call rfl rfl rfl (args2 (show ax.eval (.tmp 22) = .agg #[.int .u64 p, .int .u64 q, .int .i64 r, .int .i64 t] from s22) (show ax.eval (.tmp 23) = .int .u64 u from s23)) Try.func36 (by decide +kernel) rfl) ?_
      · refine (has_n p q r t u wx).mono ?_
        rintro e w' ⟨rfl, b9⟩
        exact ⟨_, rfl, _, rfl, tab_put rfl hs rfl (congrArg Value.bool Ffk2.out), hS.quiet 7 rfl b9⟩
     ·
      have hg : ax.tmps.getD 21 undef = .bool false := (hdone 1 _ rfl rfl).2 _ rfl
      have s24 : ax.tmps.getD 24 undef = .bool false := (hdone 0 _ rfl rfl).2 _ rfl
      exact wpOp_valw (v := .bool true) (w' := wx) rfl (wanted_yes 4 21 false hg (by rw [hs]; omega) rfl rfl rfl rfl) (by simp [execOp, Act.eval, s24, go_sem]) ⟨_, rfl, tab_put rfl hs rfl rfl, hS.same 8 rfl⟩
     ·
      have s21 : ax.tmps.getD 21 undef = .bool false := (hdone 0 _ rfl rfl).2 _ rfl
      have s25 : ax.tmps.getD 25 undef = .bool true := (hdone 1 _ rfl rfl).2 _ rfl
      exact wpOp_val (v := .bool true) (w' := wx) rfl rfl (by simp [execOp, Act.eval, s21, s25, go_sem]) ⟨_, rfl, tab_put rfl hs rfl rfl, hS.same 9 rfl⟩
   intro a2 w2 fl d2 z2 rest2 R2 hfl hS
   obtain ⟨B2, n2, hBs, hAs, hPs⟩ := hS.finish hfl rfl
   replace d2 := d2.trans d1
   replace z2 := z2.trans z1
   obtain ⟨⟨l_g1_2, b_g1_2⟩, ⟨l_g2_2, b_g2_2⟩, -⟩ := hBs
   replace l_g1_2 : g1 < w1.heap.size := l_g1_2
   replace l_g2_2 : g2 < w1.heap.size := l_g2_2
   have s0_2 := (rest2 0 (not_of (by kernel_rfl))).trans s0_1
   have s3_2 := (rest2 3 (not_of (by kernel_rfl))).trans s3_1
   have s4_2 := (rest2 4 (not_of (by kernel_rfl))).trans s4_1
   have s6_2 := (rest2 6 (not_of (by kernel_rfl))).trans u_g1
   have s7_2 := (rest2 7 (not_of (by kernel_rfl))).trans u_g2
   have s10_2 := (rest2 10 (not_of (by kernel_rfl))).trans s10_1
   have s26_2 : a2.tmps.getD 26 undef = .bool true := R2 9 _ rfl
   clear R2 rest2 hS hfl hPs hAs
   clear u_g1 u_g2 s0_1 s3_1 s4_1 s10_1 b_g1_1 b_g2_1 d1 z1
   refine wp_cond_true (show a2.tmps.getD 26 undef = .bool true from s26_2) ?_
   refine wp_seq ?_
   refine wp_regx (SX W w2.heap.size [⟨g1, 60, (cR a b c d), none, #[]⟩, ⟨g2, 60, (cR p q r t), none, #[]⟩] []) (TabX [fun vx => vx = .bool true, fun vx => vx = .bool true]) (by kernel_rfl) (back_of (by kernel_rfl)) (dst_of (by kernel_rfl)) (in_ofz (by kernel_rfl) z2) (fun fl w1 hfl hw => SX.start' hw B2 hfl rfl ⟨b_g1_2, b_g2_2, trivial⟩) ?h5 ?_
   case h5 =>
     intro ix ox ax wx fl ho hS hfi clo hsz hrest hdone hund
     have hs : ax.tmps.size = 108 := hsz.trans z2
     have hi : ix < 2 := (Array.getElem?_eq_some_iff.1 ho).1
     clear hrest hsz hund
     obtain rfl | rfl : ix = 0 ∨ ix = 1 := by omega
     all_goals obtain rfl := Option.some.inj (show some _ = some ox from ho)
     ·
      refine wpOp_call (args := #[]) rfl rfl (exec_call rfl rfl rfl (args0 ) Try.func46 (by decide +kernel) rfl) ?_
      · refine (wakes_n wx).mono ?_
        rintro e w' ⟨rfl, b9⟩
        exact ⟨_, rfl, _, rfl, tab_put rfl hs rfl rfl, hS.quiet 0 rfl b9⟩
     ·
      have s27 : ax.tmps.getD 27 undef = .bool true := (hdone 0 _ rfl rfl).2 _ rfl
      exact wpOp_val (v := .bool true) (w' := wx) rfl rfl (by simp [execOp, Act.eval, s27]) ⟨_, rfl, tab_put rfl hs rfl rfl, hS.same 1 rfl⟩
   intro a3 w3 fl d3 z3 rest3 R3 hfl hS
   obtain ⟨B3, n3, hBs, hAs, hPs⟩ := hS.finish hfl rfl
   replace d3 := d3.trans d2
   replace z3 := z3.trans z2
   obtain ⟨⟨-, b_g1_3⟩, ⟨-, b_g2_3⟩, -⟩ := hBs
   have s0_3 := (rest3 0 (not_of (by kernel_rfl))).trans s0_2
   have s3_3 := (rest3 3 (not_of (by kernel_rfl))).trans s3_2
   have s4_3 := (rest3 4 (not_of (by kernel_rfl))).trans s4_2
   have s6_3 := (rest3 6 (not_of (by kernel_rfl))).trans s6_2
   have s7_3 := (rest3 7 (not_of (by kernel_rfl))).trans s7_2
   have s10_3 : a3.tmps.getD 10 undef = .bool true := R3 1 _ rfl
   clear R3 rest3 hS hfl hPs hAs
   clear s0_2 s3_2 s4_2 s6_2 s7_2 s10_2 s26_2 b_g1_2 b_g2_2 d2 z2
   refine wp_ret ?_
   try simp only [Exit.inBlock, Exit.then]
   refine bodyPost_ret (res_t (fn := Try.f8) rfl s10_3) d3 ?_
   exact ⟨rfl, B3⟩
  have Ffk2 := Lib.hid fk2; clear fk2
  refine wp_regx (SX W w1.heap.size [⟨g1, 60, (cR a b c d), none, #[]⟩, ⟨g2, 60, (cR p q r t), none, #[]⟩] []) (TabX [fun vx => vx = .agg #[.int .u64 a, .int .u64 b, .int .i64 c, .int .i64 d], fun vx => vx = .int .u64 v, fun vx => vx = .bool true, fun vx => vx = .bool false, fun vx => vx = .bool false, fun vx => vx = .agg #[.int .u64 p, .int .u64 q, .int .i64 r, .int .i64 t], fun vx => vx = .int .u64 u, fun vx => vx = .bool true, fun vx => vx = .bool false, fun vx => vx = .bool false]) (by kernel_rfl) (back_of (by kernel_rfl)) (dst_of (by kernel_rfl)) (in_ofz (by kernel_rfl) z1) (fun fl w1 hfl hw => SX.start' hw B1 hfl rfl ⟨b_g1_1, b_g2_1, trivial⟩) ?h6 ?_
  case h6 =>
    intro ix ox ax wx fl ho hS hfi clo hsz hrest hdone hund
    have t3 := (hrest 3 (not_of (by kernel_rfl))).trans s3_1
    have t4 := (hrest 4 (not_of (by kernel_rfl))).trans s4_1
    have t6 := (hrest 6 (not_of (by kernel_rfl))).trans u_g1
    have t7 := (hrest 7 (not_of (by kernel_rfl))).trans u_g2
    have hs : ax.tmps.size = 108 := hsz.trans z1
    have hi : ix < 10 := (Array.getElem?_eq_some_iff.1 ho).1
    clear hrest hsz hund
    obtain rfl | rfl | rfl | rfl | rfl | rfl | rfl | rfl | rfl | rfl : ix = 0 ∨ ix = 1 ∨ ix = 2 ∨ ix = 3 ∨ ix = 4 ∨ ix = 5 ∨ ix = 6 ∨ ix = 7 ∨ ix = 8 ∨ ix = 9 := by omega
    all_goals obtain rfl := Option.some.inj (show some _ = some ox from ho)
    ·
     have hr := hS.rowNi 0 rfl
     exact wpOp_val (v := .agg #[.int .u64 a, .int .u64 b, .int .i64 c, .int .i64 d]) (w' := wx) rfl rfl (exec_loadR 60 _ rfl g1 0 (show ax.eval (.tmp 6) = .pointer (some ⟨g1, 0, none⟩) from t6) hr [.int .u64 a, .int .u64 b, .int .i64 c, .int .i64 d] rfl _ Try.underlying60 rfl (by kernel_rfl)) ⟨_, rfl, tab_put rfl hs rfl rfl, hS.same 0 rfl⟩
    ·
     exact wpOp_val (v := .int .u64 v) (w' := wx) rfl rfl (by simp [execOp, Act.eval, t3]) ⟨_, rfl, tab_put rfl hs rfl rfl, hS.same 1 rfl⟩
    ·
     have s17 : ax.tmps.getD 17 undef = .agg #[.int .u64 a, .int .u64 b, .int .i64 c, .int .i64 d] := (hdone 0 _ rfl rfl).2 _ rfl
     have s18 : ax.tmps.getD 18 undef = .int .u64 v := (hdone 1 _ rfl rfl).2 _ rfl
     refine wpOp_call (args := #[.agg #[.int .u64 a, .int .u64 b, .int .i64 c, .int .i64 d], .int .u64 v]) rfl rfl (exec_call rfl rfl rfl (args2 (show ax.eval (.tmp 17) = .agg #[.int .u64 a, .int .u64 b, .int .i64 c, .int .i64 d] from s17) (show ax.eval (.tmp 18) = .int .u64 v from s18)) Try.func36 (by decide +kernel) rfl) ?_
     · refine (has_n a b c d v wx).mono ?_
       rintro e w' ⟨rfl, b9⟩
       exact ⟨_, rfl, _, rfl, tab_put rfl hs rfl (congrArg Value.bool Ffk1.out), hS.quiet 2 rfl b9⟩
    ·
     have s19 : ax.tmps.getD 19 undef = .bool true := (hdone 0 _ rfl rfl).2 _ rfl
     exact wpOp_val (v := .bool false) (w' := wx) rfl rfl (by simp [execOp, Act.eval, s19, go_sem]) ⟨_, rfl, tab_put rfl hs rfl rfl, hS.same 3 rfl⟩
    ·
     have s20 : ax.tmps.getD 20 undef = .bool false := (hdone 0 _ rfl rfl).2 _ rfl
     exact wpOp_val (v := .bool false) (w' := wx) rfl rfl (by simp [execOp, Act.eval, s20]) ⟨_, rfl, tab_put rfl hs rfl rfl, hS.same 4 rfl⟩
    ·
     have hg : ax.tmps.getD 21 undef = .bool false := (hdone 0 _ rfl rfl).2 _ rfl
     have hr := hS.rowNi 1 rfl
     exact wpOp_valw (v := .agg #[.int .u64 p, .int .u64 q, .int .i64 r, .int .i64 t]) (w' := wx) rfl (wanted_yes 4 21 false hg (by rw [hs]; omega) rfl rfl rfl rfl) (exec_loadR 60 _ rfl g2 0 (show ax.eval (.tmp 7) = .pointer (some ⟨g2, 0, none⟩) from t7) hr [.int .u64 p, .int .u64 q, .int .i64 r, .int .i64 t] rfl _ Try.underlying60 rfl (by kernel_rfl)) ⟨_, rfl, tab_put rfl hs rfl rfl, hS.same 5 rfl⟩
    ·
     have hg : ax.tmps.getD 21 undef = .bool false := (hdone 0 _ rfl rfl).2 _ rfl
     exact wpOp_valw (v := .int .u64 u) (w' := wx) rfl (wanted_yes 4 21 false hg (by rw [hs]; omega) rfl rfl rfl rfl) (by simp [execOp, Act.eval, t4]) ⟨_, rfl, tab_put rfl hs rfl rfl, hS.same 6 rfl⟩
    ·
     have hg : ax.tmps.getD 21 undef = .bool false := (hdone 2 _ rfl rfl).2 _ rfl
     have s22 : ax.tmps.getD 22 undef = .agg #[.int .u64 p, .int .u64 q, .int .i64 r, .int .i64 t] := (hdone 0 _ rfl rfl).2 _ rfl
     have s23 : ax.tmps.getD 23 undef = .int .u64 u := (hdone 1 _ rfl rfl).2 _ rfl
     refine wpOp_callw (args := #[.agg #[.int .u64 p, .int .u64 q, .int .i64 r, .int .i64 t], .int .u64 u]) rfl (wanted_yes 4 21 false hg (by rw [hs]; omega) rfl rfl rfl rfl) (exec_call rfl rfl rfl (args2 (show ax.eval (.tmp 22) = .agg #[.int .u64 p, .int .u64 q, .int .i64 r, .int .i64 t] from s22) (show ax.eval (.tmp 23) = .int .u64 u from s23)) Try.func36 (by decide +kernel) rfl) ?_
     · refine (has_n p q r t u wx).mono ?_
       rintro e w' ⟨rfl, b9⟩
       exact ⟨_, rfl, _, rfl, tab_put rfl hs rfl (congrArg Value.bool Ffk2.out), hS.quiet 7 rfl b9⟩
    ·
     have hg : ax.tmps.getD 21 undef = .bool false := (hdone 1 _ rfl rfl).2 _ rfl
     have s24 : ax.tmps.getD 24 undef = .bool true := (hdone 0 _ rfl rfl).2 _ rfl
     exact wpOp_valw (v := .bool false) (w' := wx) rfl (wanted_yes 4 21 false hg (by rw [hs]; omega) rfl rfl rfl rfl) (by simp [execOp, Act.eval, s24, go_sem]) ⟨_, rfl, tab_put rfl hs rfl rfl, hS.same 8 rfl⟩
    ·
     have s21 : ax.tmps.getD 21 undef = .bool false := (hdone 0 _ rfl rfl).2 _ rfl
     have s25 : ax.tmps.getD 25 undef = .bool false := (hdone 1 _ rfl rfl).2 _ rfl
     exact wpOp_val (v := .bool false) (w' := wx) rfl rfl (by simp [execOp, Act.eval, s21, s25, go_sem]) ⟨_, rfl, tab_put rfl hs rfl rfl, hS.same 9 rfl⟩
  intro a2 w2 fl d2 z2 rest2 R2 hfl hS
  obtain ⟨B2, n2, hBs, hAs, hPs⟩ := hS.finish hfl rfl
  replace d2 := d2.trans d1
  replace z2 := z2.trans z1
  obtain ⟨⟨l_g1_2, b_g1_2⟩, ⟨l_g2_2, b_g2_2⟩, -⟩ := hBs
  replace l_g1_2 : g1 < w1.heap.size := l_g1_2
  replace l_g2_2 : g2 < w1.heap.size := l_g2_2
  have s0_2 := (rest2 0 (not_of (by kernel_rfl))).trans s0_1
  have s3_2 := (rest2 3 (not_of (by kernel_rfl))).trans s3_1
  have s4_2 := (rest2 4 (not_of (by kernel_rfl))).trans s4_1
  have s6_2 := (rest2 6 (not_of (by kernel_rfl))).trans u_g1
  have s7_2 := (rest2 7 (not_of (by kernel_rfl))).trans u_g2
  have s10_2 := (rest2 10 (not_of (by kernel_rfl))).trans s10_1
  have s26_2 : a2.tmps.getD 26 undef = .bool false := R2 9 _ rfl
  clear R2 rest2 hS hfl hPs hAs
  clear u_g1 u_g2 s0_1 s3_1 s4_1 s10_1 b_g1_1 b_g2_1 d1 z1
  refine wp_cond_false (show a2.tmps.getD 26 undef = .bool false from s26_2) ?_
  refine wp_skip ?_
  refine wp_seq ?_
  refine wp_regx (SX W w2.heap.size [⟨g1, 60, (cR a b c d), none, #[]⟩, ⟨g2, 60, (cR p q r t), none, #[]⟩] [⟨5, 11, 60, (cR 0 0 0 0), some 6, (cR ((Rg.nar ⟨⟨a, b⟩, ⟨c, d⟩⟩).u.lo) ((Rg.nar ⟨⟨a, b⟩, ⟨c, d⟩⟩).u.hi) ((Rg.nar ⟨⟨a, b⟩, ⟨c, d⟩⟩).s.lo) ((Rg.nar ⟨⟨a, b⟩, ⟨c, d⟩⟩).s.hi))⟩]) (TabX [fun vx => vx = .agg #[.int .u64 a, .int .u64 b, .int .i64 c, .int .i64 d], fun vx => vx = .tuple #[.agg #[.int .u64 ((Rg.nar ⟨⟨a, b⟩, ⟨c, d⟩⟩).u.lo), .int .u64 ((Rg.nar ⟨⟨a, b⟩, ⟨c, d⟩⟩).u.hi), .int .i64 ((Rg.nar ⟨⟨a, b⟩, ⟨c, d⟩⟩).s.lo), .int .i64 ((Rg.nar ⟨⟨a, b⟩, ⟨c, d⟩⟩).s.hi)], .bool (Rg.narB ⟨⟨a, b⟩, ⟨c, d⟩⟩)], fun vx => vx = .tuple #[.agg #[.int .u64 ((Rg.nar ⟨⟨a, b⟩, ⟨c, d⟩⟩).u.lo), .int .u64 ((Rg.nar ⟨⟨a, b⟩, ⟨c, d⟩⟩).u.hi), .int .i64 ((Rg.nar ⟨⟨a, b⟩, ⟨c, d⟩⟩).s.lo), .int .i64 ((Rg.nar ⟨⟨a, b⟩, ⟨c, d⟩⟩).s.hi)], .bool (Rg.narB ⟨⟨a, b⟩, ⟨c, d⟩⟩)], fun vx => vx = .agg #[.int .u64 ((Rg.nar ⟨⟨a, b⟩, ⟨c, d⟩⟩).u.lo), .int .u64 ((Rg.nar ⟨⟨a, b⟩, ⟨c, d⟩⟩).u.hi), .int .i64 ((Rg.nar ⟨⟨a, b⟩, ⟨c, d⟩⟩).s.lo), .int .i64 ((Rg.nar ⟨⟨a, b⟩, ⟨c, d⟩⟩).s.hi)], fun vx => vx = .bool true, fun _ => True, fun _ => True, fun vx => vx = .bool true]) (by kernel_rfl) (back_of (by kernel_rfl)) (dst_of (by kernel_rfl)) (in_ofz (by kernel_rfl) z2) (fun fl w1 hfl hw => SX.start' hw B2 hfl rfl ⟨b_g1_2, b_g2_2, trivial⟩) ?h7 ?_
  case h7 =>
    intro ix ox ax wx fl ho hS hfi clo hsz hrest hdone hund
    have t6 := (hrest 6 (not_of (by kernel_rfl))).trans s6_2
    have hs : ax.tmps.size = 108 := hsz.trans z2
    have hi : ix < 8 := (Array.getElem?_eq_some_iff.1 ho).1
    clear hrest hsz hund
    obtain rfl | rfl | rfl | rfl | rfl | rfl | rfl | rfl : ix = 0 ∨ ix = 1 ∨ ix = 2 ∨ ix = 3 ∨ ix = 4 ∨ ix = 5 ∨ ix = 6 ∨ ix = 7 := by omega
    all_goals obtain rfl := Option.some.inj (show some _ = some ox from ho)
    ·
     have hr := hS.rowNi 0 rfl
     exact wpOp_val (v := .agg #[.int .u64 a, .int .u64 b, .int .i64 c, .int .i64 d]) (w' := wx) rfl rfl (exec_loadR 60 _ rfl g1 0 (show ax.eval (.tmp 6) = .pointer (some ⟨g1, 0, none⟩) from t6) hr [.int .u64 a, .int .u64 b, .int .i64 c, .int .i64 d] rfl _ Try.underlying60 rfl (by kernel_rfl)) ⟨_, rfl, tab_put rfl hs rfl rfl, hS.same 0 rfl⟩
    ·
     have s29 : ax.tmps.getD 29 undef = .agg #[.int .u64 a, .int .u64 b, .int .i64 c, .int .i64 d] := (hdone 0 _ rfl rfl).2 _ rfl
     refine wpOp_call (args := #[.agg #[.int .u64 a, .int .u64 b, .int .i64 c, .int .i64 d]]) rfl rfl (exec_call rfl rfl rfl (args1 (show ax.eval (.tmp 29) = .agg #[.int .u64 a, .int .u64 b, .int .i64 c, .int .i64 d] from s29)) Try.func28 (by decide +kernel) rfl) ?_
     · refine (narrow_n a b c d wx HA.out).mono ?_
       rintro e w' ⟨rfl, b9⟩
       exact ⟨_, rfl, _, rfl, tab_put rfl hs rfl rfl, hS.quiet 1 rfl b9⟩
    ·
     have s30 : ax.tmps.getD 30 undef = .tuple #[.agg #[.int .u64 ((Rg.nar ⟨⟨a, b⟩, ⟨c, d⟩⟩).u.lo), .int .u64 ((Rg.nar ⟨⟨a, b⟩, ⟨c, d⟩⟩).u.hi), .int .i64 ((Rg.nar ⟨⟨a, b⟩, ⟨c, d⟩⟩).s.lo), .int .i64 ((Rg.nar ⟨⟨a, b⟩, ⟨c, d⟩⟩).s.hi)], .bool (Rg.narB ⟨⟨a, b⟩, ⟨c, d⟩⟩)] := (hdone 0 _ rfl rfl).2 _ rfl
     exact wpOp_val (v := .tuple #[.agg #[.int .u64 ((Rg.nar ⟨⟨a, b⟩, ⟨c, d⟩⟩).u.lo), .int .u64 ((Rg.nar ⟨⟨a, b⟩, ⟨c, d⟩⟩).u.hi), .int .i64 ((Rg.nar ⟨⟨a, b⟩, ⟨c, d⟩⟩).s.lo), .int .i64 ((Rg.nar ⟨⟨a, b⟩, ⟨c, d⟩⟩).s.hi)], .bool (Rg.narB ⟨⟨a, b⟩, ⟨c, d⟩⟩)]) (w' := wx) rfl rfl (by (revert s30; generalize (.tuple #[.agg #[.int .u64 ((Rg.nar ⟨⟨a, b⟩, ⟨c, d⟩⟩).u.lo), .int .u64 ((Rg.nar ⟨⟨a, b⟩, ⟨c, d⟩⟩).u.hi), .int .i64 ((Rg.nar ⟨⟨a, b⟩, ⟨c, d⟩⟩).s.lo), .int .i64 ((Rg.nar ⟨⟨a, b⟩, ⟨c, d⟩⟩).s.hi)], .bool (Rg.narB ⟨⟨a, b⟩, ⟨c, d⟩⟩)] : Value) = y0; intro s30); simp [execOp, Act.eval, s30]) ⟨_, rfl, tab_put rfl hs rfl rfl, hS.same 2 rfl⟩
    ·
     have s28 : ax.tmps.getD 28 undef = .tuple #[.agg #[.int .u64 ((Rg.nar ⟨⟨a, b⟩, ⟨c, d⟩⟩).u.lo), .int .u64 ((Rg.nar ⟨⟨a, b⟩, ⟨c, d⟩⟩).u.hi), .int .i64 ((Rg.nar ⟨⟨a, b⟩, ⟨c, d⟩⟩).s.lo), .int .i64 ((Rg.nar ⟨⟨a, b⟩, ⟨c, d⟩⟩).s.hi)], .bool (Rg.narB ⟨⟨a, b⟩, ⟨c, d⟩⟩)] := (hdone 0 _ rfl rfl).2 _ rfl
     exact wpOp_val (v := .agg #[.int .u64 ((Rg.nar ⟨⟨a, b⟩, ⟨c, d⟩⟩).u.lo), .int .u64 ((Rg.nar ⟨⟨a, b⟩, ⟨c, d⟩⟩).u.hi), .int .i64 ((Rg.nar ⟨⟨a, b⟩, ⟨c, d⟩⟩).s.lo), .int .i64 ((Rg.nar ⟨⟨a, b⟩, ⟨c, d⟩⟩).s.hi)]) (w' := wx) rfl rfl (by simp [execOp, Act.eval, s28, go_sem]) ⟨_, rfl, tab_put rfl hs rfl rfl, hS.same 3 rfl⟩
    ·
     have s28 : ax.tmps.getD 28 undef = .tuple #[.agg #[.int .u64 ((Rg.nar ⟨⟨a, b⟩, ⟨c, d⟩⟩).u.lo), .int .u64 ((Rg.nar ⟨⟨a, b⟩, ⟨c, d⟩⟩).u.hi), .int .i64 ((Rg.nar ⟨⟨a, b⟩, ⟨c, d⟩⟩).s.lo), .int .i64 ((Rg.nar ⟨⟨a, b⟩, ⟨c, d⟩⟩).s.hi)], .bool (Rg.narB ⟨⟨a, b⟩, ⟨c, d⟩⟩)] := (hdone 0 _ rfl rfl).2 _ rfl
     exact wpOp_val (v := .bool (Rg.narB ⟨⟨a, b⟩, ⟨c, d⟩⟩)) (w' := wx) rfl rfl (by simp [execOp, Act.eval, s28, go_sem]) ⟨_, rfl, tab_put rfl hs rfl (congrArg Value.bool ((KN.out Ffk1.out).1)), hS.same 4 rfl⟩
    ·
     refine wpOp_val (v := .pointer (some ⟨wx.heap.size, 0, none⟩)) (w' := wx.alloc (.cells #[.int .u64 0, .int .u64 0, .int .i64 0, .int .i64 0] 60)) rfl rfl ?_ ⟨_, rfl, trivial, hS.alloc 5 11 60 #[.int .u64 0, .int .u64 0, .int .i64 0, .int .i64 0] [] [] (some 6) #[.int .u64 ((Rg.nar ⟨⟨a, b⟩, ⟨c, d⟩⟩).u.lo), .int .u64 ((Rg.nar ⟨⟨a, b⟩, ⟨c, d⟩⟩).u.hi), .int .i64 ((Rg.nar ⟨⟨a, b⟩, ⟨c, d⟩⟩).s.lo), .int .i64 ((Rg.nar ⟨⟨a, b⟩, ⟨c, d⟩⟩).s.hi)] rfl rfl rfl (by rw [hs]; omega) (not_yet clo hfi (by kernel_rfl))⟩
     · simp [execOp, Act.eval, go_sem]
    ·
     have hd11 := (hdone 0 _ rfl rfl).1
     obtain ⟨g3, s11, n11, r11⟩ := SX.rowA hS [] [] 5 11 60 _ _ 6 rfl hd11 hfi
     have s11 : ax.tmps.getD 11 undef = .pointer (some ⟨g3, 0, none⟩) := s11
     have s31 : ax.tmps.getD 31 undef = .agg #[.int .u64 ((Rg.nar ⟨⟨a, b⟩, ⟨c, d⟩⟩).u.lo), .int .u64 ((Rg.nar ⟨⟨a, b⟩, ⟨c, d⟩⟩).u.hi), .int .i64 ((Rg.nar ⟨⟨a, b⟩, ⟨c, d⟩⟩).s.lo), .int .i64 ((Rg.nar ⟨⟨a, b⟩, ⟨c, d⟩⟩).s.hi)] := (hdone 1 _ rfl rfl).2 _ rfl
     have hr : wx.heap[g3]? = some (.cells #[.int .u64 0, .int .u64 0, .int .i64 0, .int .i64 0] 60 (0, 0)) := r11
     exact wpOp_skp (w' := wx.setRow g3 #[.int .u64 ((Rg.nar ⟨⟨a, b⟩, ⟨c, d⟩⟩).u.lo), .int .u64 ((Rg.nar ⟨⟨a, b⟩, ⟨c, d⟩⟩).u.hi), .int .i64 ((Rg.nar ⟨⟨a, b⟩, ⟨c, d⟩⟩).s.lo), .int .i64 ((Rg.nar ⟨⟨a, b⟩, ⟨c, d⟩⟩).s.hi)]) rfl rfl (exec_storeR 60 _ _ rfl g3 #[.int .u64 ((Rg.nar ⟨⟨a, b⟩, ⟨c, d⟩⟩).u.lo), .int .u64 ((Rg.nar ⟨⟨a, b⟩, ⟨c, d⟩⟩).u.hi), .int .i64 ((Rg.nar ⟨⟨a, b⟩, ⟨c, d⟩⟩).s.lo), .int .i64 ((Rg.nar ⟨⟨a, b⟩, ⟨c, d⟩⟩).s.hi)] (show ax.eval (.tmp 11) = .pointer (some ⟨g3, 0, none⟩) from s11) (show ax.eval (.tmp 31) = .agg #[.int .u64 ((Rg.nar ⟨⟨a, b⟩, ⟨c, d⟩⟩).u.lo), .int .u64 ((Rg.nar ⟨⟨a, b⟩, ⟨c, d⟩⟩).u.hi), .int .i64 ((Rg.nar ⟨⟨a, b⟩, ⟨c, d⟩⟩).s.lo), .int .i64 ((Rg.nar ⟨⟨a, b⟩, ⟨c, d⟩⟩).s.hi)] from s31) hr (by kernel_rfl) rfl (by simp [Value.oneCell'])) ⟨undef, rfl, trivial, hS.storeA 6 5 11 60 #[.int .u64 0, .int .u64 0, .int .i64 0, .int .i64 0] #[.int .u64 ((Rg.nar ⟨⟨a, b⟩, ⟨c, d⟩⟩).u.lo), .int .u64 ((Rg.nar ⟨⟨a, b⟩, ⟨c, d⟩⟩).u.hi), .int .i64 ((Rg.nar ⟨⟨a, b⟩, ⟨c, d⟩⟩).s.lo), .int .i64 ((Rg.nar ⟨⟨a, b⟩, ⟨c, d⟩⟩).s.hi)] [] [] rfl B2.size hd11 g3 s11 (by decide) rfl (stored_setRow wx g3 _ _ _ hr)⟩
    ·
     have s32 : ax.tmps.getD 32 undef = .bool true := (hdone 0 _ rfl rfl).2 _ rfl
     exact wpOp_val (v := .bool true) (w' := wx) rfl rfl (by simp [execOp, Act.eval, s32]) ⟨_, rfl, tab_put rfl hs rfl rfl, hS.same 7 rfl⟩
  intro a3 w3 fl d3 z3 rest3 R3 hfl hS
  obtain ⟨B3, n3, hBs, hAs, hPs⟩ := hS.finish hfl rfl
  replace d3 := d3.trans d2
  replace z3 := z3.trans z2
  obtain ⟨⟨-, b_g1_3⟩, ⟨-, b_g2_3⟩, -⟩ := hBs
  obtain ⟨⟨g3, u_g3, q_g3, b_g3_3⟩, -⟩ := hAs
  replace u_g3 : a3.tmps.getD 11 undef = .pointer (some ⟨g3, 0, none⟩) := u_g3
  have m_g3 : w2.heap.size ≤ g3 := q_g3
  replace q_g3 : W.heap.size ≤ g3 := Nat.le_trans B2.size q_g3
  have s0_3 := (rest3 0 (not_of (by kernel_rfl))).trans s0_2
  have s3_3 := (rest3 3 (not_of (by kernel_rfl))).trans s3_2
  have s4_3 := (rest3 4 (not_of (by kernel_rfl))).trans s4_2
  have s6_3 := (rest3 6 (not_of (by kernel_rfl))).trans s6_2
  have s7_3 := (rest3 7 (not_of (by kernel_rfl))).trans s7_2
  have s10_3 := (rest3 10 (not_of (by kernel_rfl))).trans s10_2
  have s12_3 : a3.tmps.getD 12 undef = .bool true := R3 7 _ rfl
  clear R3 rest3 hS hfl hPs
  clear s0_2 s3_2 s4_2 s6_2 s7_2 s10_2 s26_2 b_g1_2 b_g2_2 d2 z2
  refine wp_seq ?_
  refine wp_seq ?_
  refine wp_regx (SX W w3.heap.size [⟨g1, 60, (cR a b c d), none, #[]⟩, ⟨g2, 60, (cR p q r t), none, #[]⟩, ⟨g3, 60, (cR ((Rg.nar ⟨⟨a, b⟩, ⟨c, d⟩⟩).u.lo) ((Rg.nar ⟨⟨a, b⟩, ⟨c, d⟩⟩).u.hi) ((Rg.nar ⟨⟨a, b⟩, ⟨c, d⟩⟩).s.lo) ((Rg.nar ⟨⟨a, b⟩, ⟨c, d⟩⟩).s.hi)), none, #[]⟩] []) (TabX [fun vx => vx = .bool true, fun vx => vx = .bool false, fun vx => vx = .bool false, fun vx => vx = .agg #[.int .u64 ((Rg.nar ⟨⟨a, b⟩, ⟨c, d⟩⟩).u.lo), .int .u64 ((Rg.nar ⟨⟨a, b⟩, ⟨c, d⟩⟩).u.hi), .int .i64 ((Rg.nar ⟨⟨a, b⟩, ⟨c, d⟩⟩).s.lo), .int .i64 ((Rg.nar ⟨⟨a, b⟩, ⟨c, d⟩⟩).s.hi)], fun vx => vx = .int .u64 v, fun vx => vx = .bool true, fun vx => vx = .bool false, fun vx => vx = .bool false, fun vx => vx = .bool false, fun vx => vx = .agg #[.int .u64 ((Rg.nar ⟨⟨a, b⟩, ⟨c, d⟩⟩).u.lo), .int .u64 ((Rg.nar ⟨⟨a, b⟩, ⟨c, d⟩⟩).u.hi), .int .i64 ((Rg.nar ⟨⟨a, b⟩, ⟨c, d⟩⟩).s.lo), .int .i64 ((Rg.nar ⟨⟨a, b⟩, ⟨c, d⟩⟩).s.hi)], fun vx => vx = .agg #[.int .u64 a, .int .u64 b, .int .i64 c, .int .i64 d], fun vx => vx = .bool true, fun vx => vx = .bool false, fun vx => vx = .bool false, fun vx => vx = .bool false, fun vx => vx = .agg #[.int .u64 a, .int .u64 b, .int .i64 c, .int .i64 d], fun vx => vx = .agg #[.int .u64 p, .int .u64 q, .int .i64 r, .int .i64 t], fun vx => vx = .agg #[.int .u64 ((Rg.joinR ⟨⟨a, b⟩, ⟨c, d⟩⟩ ⟨⟨p, q⟩, ⟨r, t⟩⟩).u.lo), .int .u64 ((Rg.joinR ⟨⟨a, b⟩, ⟨c, d⟩⟩ ⟨⟨p, q⟩, ⟨r, t⟩⟩).u.hi), .int .i64 ((Rg.joinR ⟨⟨a, b⟩, ⟨c, d⟩⟩ ⟨⟨p, q⟩, ⟨r, t⟩⟩).s.lo), .int .i64 ((Rg.joinR ⟨⟨a, b⟩, ⟨c, d⟩⟩ ⟨⟨p, q⟩, ⟨r, t⟩⟩).s.hi)], fun vx => vx = .int .u64 v, fun vx => vx = .bool true, fun vx => vx = .bool false, fun vx => vx = .bool false, fun vx => vx = .bool false, fun vx => vx = .agg #[.int .u64 a, .int .u64 b, .int .i64 c, .int .i64 d], fun vx => vx = .agg #[.int .u64 p, .int .u64 q, .int .i64 r, .int .i64 t], fun vx => vx = .agg #[.int .u64 ((Rg.joinR ⟨⟨a, b⟩, ⟨c, d⟩⟩ ⟨⟨p, q⟩, ⟨r, t⟩⟩).u.lo), .int .u64 ((Rg.joinR ⟨⟨a, b⟩, ⟨c, d⟩⟩ ⟨⟨p, q⟩, ⟨r, t⟩⟩).u.hi), .int .i64 ((Rg.joinR ⟨⟨a, b⟩, ⟨c, d⟩⟩ ⟨⟨p, q⟩, ⟨r, t⟩⟩).s.lo), .int .i64 ((Rg.joinR ⟨⟨a, b⟩, ⟨c, d⟩⟩ ⟨⟨p, q⟩, ⟨r, t⟩⟩).s.hi)], fun vx => vx = .int .u64 u, fun vx => vx = .bool true, fun vx => vx = .bool false, fun vx => vx = .bool false, fun vx => vx = .bool false, fun vx => vx = .agg #[.int .u64 a, .int .u64 b, .int .i64 c, .int .i64 d], fun vx => vx = .agg #[.int .u64 ((Rg.low ⟨⟨a, b⟩, ⟨c, d⟩⟩).u.lo), .int .u64 ((Rg.low ⟨⟨a, b⟩, ⟨c, d⟩⟩).u.hi), .int .i64 ((Rg.low ⟨⟨a, b⟩, ⟨c, d⟩⟩).s.lo), .int .i64 ((Rg.low ⟨⟨a, b⟩, ⟨c, d⟩⟩).s.hi)], fun vx => vx = .int .u64 v, fun vx => vx = .int .u64 (v % 4294967296), fun vx => vx = .bool true, fun vx => vx = .bool false, fun vx => vx = .bool false]) (by kernel_rfl) (back_of (by kernel_rfl)) (dst_of (by kernel_rfl)) (in_ofz (by kernel_rfl) z3) (fun fl w1 hfl hw => SX.start' hw B3 hfl rfl ⟨b_g1_3, b_g2_3, b_g3_3, trivial⟩) ?h8 ?_
  case h8 =>
    intro ix ox ax wx fl ho hS hfi clo hsz hrest hdone hund
    have t3 := (hrest 3 (not_of (by kernel_rfl))).trans s3_3
    have t4 := (hrest 4 (not_of (by kernel_rfl))).trans s4_3
    have t6 := (hrest 6 (not_of (by kernel_rfl))).trans s6_3
    have t7 := (hrest 7 (not_of (by kernel_rfl))).trans s7_3
    have t11 := (hrest 11 (not_of (by kernel_rfl))).trans u_g3
    have t12 := (hrest 12 (not_of (by kernel_rfl))).trans s12_3
    have hs : ax.tmps.size = 108 := hsz.trans z3
    have hi : ix < 38 := (Array.getElem?_eq_some_iff.1 ho).1
    clear hrest hsz hund
    obtain rfl | rfl | rfl | rfl | rfl | rfl | rfl | rfl | rfl | rfl | rfl | rfl | rfl | rfl | rfl | rfl | rfl | rfl | rfl | rfl | rfl | rfl | rfl | rfl | rfl | rfl | rfl | rfl | rfl | rfl | rfl | rfl | rfl | rfl | rfl | rfl | rfl | rfl : ix = 0 ∨ ix = 1 ∨ ix = 2 ∨ ix = 3 ∨ ix = 4 ∨ ix = 5 ∨ ix = 6 ∨ ix = 7 ∨ ix = 8 ∨ ix = 9 ∨ ix = 10 ∨ ix = 11 ∨ ix = 12 ∨ ix = 13 ∨ ix = 14 ∨ ix = 15 ∨ ix = 16 ∨ ix = 17 ∨ ix = 18 ∨ ix = 19 ∨ ix = 20 ∨ ix = 21 ∨ ix = 22 ∨ ix = 23 ∨ ix = 24 ∨ ix = 25 ∨ ix = 26 ∨ ix = 27 ∨ ix = 28 ∨ ix = 29 ∨ ix = 30 ∨ ix = 31 ∨ ix = 32 ∨ ix = 33 ∨ ix = 34 ∨ ix = 35 ∨ ix = 36 ∨ ix = 37 := by omega
    all_goals obtain rfl := Option.some.inj (show some _ = some ox from ho)
    ·
     exact wpOp_val (v := .bool true) (w' := wx) rfl rfl (by simp [execOp, Act.eval, t12]) ⟨_, rfl, tab_put rfl hs rfl rfl, hS.same 0 rfl⟩
    ·
     have s33 : ax.tmps.getD 33 undef = .bool true := (hdone 0 _ rfl rfl).2 _ rfl
     exact wpOp_val (v := .bool false) (w' := wx) rfl rfl (by simp [execOp, Act.eval, s33, go_sem]) ⟨_, rfl, tab_put rfl hs rfl rfl, hS.same 1 rfl⟩
    ·
     have s34 : ax.tmps.getD 34 undef = .bool false := (hdone 0 _ rfl rfl).2 _ rfl
     exact wpOp_val (v := .bool false) (w' := wx) rfl rfl (by simp [execOp, Act.eval, s34]) ⟨_, rfl, tab_put rfl hs rfl rfl, hS.same 2 rfl⟩
    ·
     have hg : ax.tmps.getD 35 undef = .bool false := (hdone 0 _ rfl rfl).2 _ rfl
     have hr := hS.rowNi 2 rfl
     exact wpOp_valw (v := .agg #[.int .u64 ((Rg.nar ⟨⟨a, b⟩, ⟨c, d⟩⟩).u.lo), .int .u64 ((Rg.nar ⟨⟨a, b⟩, ⟨c, d⟩⟩).u.hi), .int .i64 ((Rg.nar ⟨⟨a, b⟩, ⟨c, d⟩⟩).s.lo), .int .i64 ((Rg.nar ⟨⟨a, b⟩, ⟨c, d⟩⟩).s.hi)]) (w' := wx) rfl (wanted_yes 2 35 false hg (by rw [hs]; omega) rfl rfl rfl rfl) (exec_loadR 60 _ rfl g3 0 (show ax.eval (.tmp 11) = .pointer (some ⟨g3, 0, none⟩) from t11) hr [.int .u64 ((Rg.nar ⟨⟨a, b⟩, ⟨c, d⟩⟩).u.lo), .int .u64 ((Rg.nar ⟨⟨a, b⟩, ⟨c, d⟩⟩).u.hi), .int .i64 ((Rg.nar ⟨⟨a, b⟩, ⟨c, d⟩⟩).s.lo), .int .i64 ((Rg.nar ⟨⟨a, b⟩, ⟨c, d⟩⟩).s.hi)] rfl _ Try.underlying60 rfl (by kernel_rfl)) ⟨_, rfl, tab_put rfl hs rfl rfl, hS.same 3 rfl⟩
    ·
     have hg : ax.tmps.getD 35 undef = .bool false := (hdone 0 _ rfl rfl).2 _ rfl
     exact wpOp_valw (v := .int .u64 v) (w' := wx) rfl (wanted_yes 2 35 false hg (by rw [hs]; omega) rfl rfl rfl rfl) (by simp [execOp, Act.eval, t3]) ⟨_, rfl, tab_put rfl hs rfl rfl, hS.same 4 rfl⟩
    ·
     have hg : ax.tmps.getD 35 undef = .bool false := (hdone 2 _ rfl rfl).2 _ rfl
     have s36 : ax.tmps.getD 36 undef = .agg #[.int .u64 ((Rg.nar ⟨⟨a, b⟩, ⟨c, d⟩⟩).u.lo), .int .u64 ((Rg.nar ⟨⟨a, b⟩, ⟨c, d⟩⟩).u.hi), .int .i64 ((Rg.nar ⟨⟨a, b⟩, ⟨c, d⟩⟩).s.lo), .int .i64 ((Rg.nar ⟨⟨a, b⟩, ⟨c, d⟩⟩).s.hi)] := (hdone 0 _ rfl rfl).2 _ rfl
     have s37 : ax.tmps.getD 37 undef = .int .u64 v := (hdone 1 _ rfl rfl).2 _ rfl
     refine wpOp_callw (args := #[.agg #[.int .u64 ((Rg.nar ⟨⟨a, b⟩, ⟨c, d⟩⟩).u.lo), .int .u64 ((Rg.nar ⟨⟨a, b⟩, ⟨c, d⟩⟩).u.hi), .int .i64 ((Rg.nar ⟨⟨a, b⟩, ⟨c, d⟩⟩).s.lo), .int .i64 ((Rg.nar ⟨⟨a, b⟩, ⟨c, d⟩⟩).s.hi)], .int .u64 v]) rfl (wanted_yes 2 35 false hg (by rw [hs]; omega) rfl rfl rfl rfl) (exec_call rfl rfl rfl (args2 (show ax.eval (.tmp 36) = .agg #[.int .u64 ((Rg.nar ⟨⟨a, b⟩, ⟨c, d⟩⟩).u.lo), .int .u64 ((Rg.nar ⟨⟨a, b⟩, ⟨c, d⟩⟩).u.hi), .int .i64 ((Rg.nar ⟨⟨a, b⟩, ⟨c, d⟩⟩).s.lo), .int .i64 ((Rg.nar ⟨⟨a, b⟩, ⟨c, d⟩⟩).s.hi)] from s36) (show ax.eval (.tmp 37) = .int .u64 v from s37)) Try.func36 (by decide +kernel) rfl) ?_
     · refine (has_n ((Rg.nar ⟨⟨a, b⟩, ⟨c, d⟩⟩).u.lo) ((Rg.nar ⟨⟨a, b⟩, ⟨c, d⟩⟩).u.hi) ((Rg.nar ⟨⟨a, b⟩, ⟨c, d⟩⟩).s.lo) ((Rg.nar ⟨⟨a, b⟩, ⟨c, d⟩⟩).s.hi) v wx).mono ?_
       rintro e w' ⟨rfl, b9⟩
       exact ⟨_, rfl, _, rfl, tab_put rfl hs rfl (congrArg Value.bool ((KN.out Ffk1.out).2)), hS.quiet 5 rfl b9⟩
    ·
     have hg : ax.tmps.getD 35 undef = .bool false := (hdone 1 _ rfl rfl).2 _ rfl
     have s38 : ax.tmps.getD 38 undef = .bool true := (hdone 0 _ rfl rfl).2 _ rfl
     exact wpOp_valw (v := .bool false) (w' := wx) rfl (wanted_yes 2 35 false hg (by rw [hs]; omega) rfl rfl rfl rfl) (by simp [execOp, Act.eval, s38, go_sem]) ⟨_, rfl, tab_put rfl hs rfl rfl, hS.same 6 rfl⟩
    ·
     have s35 : ax.tmps.getD 35 undef = .bool false := (hdone 0 _ rfl rfl).2 _ rfl
     have s39 : ax.tmps.getD 39 undef = .bool false := (hdone 1 _ rfl rfl).2 _ rfl
     exact wpOp_val (v := .bool false) (w' := wx) rfl rfl (by simp [execOp, Act.eval, s35, s39, go_sem]) ⟨_, rfl, tab_put rfl hs rfl rfl, hS.same 7 rfl⟩
    ·
     have s40 : ax.tmps.getD 40 undef = .bool false := (hdone 0 _ rfl rfl).2 _ rfl
     exact wpOp_val (v := .bool false) (w' := wx) rfl rfl (by simp [execOp, Act.eval, s40]) ⟨_, rfl, tab_put rfl hs rfl rfl, hS.same 8 rfl⟩
    ·
     have hg : ax.tmps.getD 41 undef = .bool false := (hdone 0 _ rfl rfl).2 _ rfl
     have hr := hS.rowNi 2 rfl
     exact wpOp_valw (v := .agg #[.int .u64 ((Rg.nar ⟨⟨a, b⟩, ⟨c, d⟩⟩).u.lo), .int .u64 ((Rg.nar ⟨⟨a, b⟩, ⟨c, d⟩⟩).u.hi), .int .i64 ((Rg.nar ⟨⟨a, b⟩, ⟨c, d⟩⟩).s.lo), .int .i64 ((Rg.nar ⟨⟨a, b⟩, ⟨c, d⟩⟩).s.hi)]) (w' := wx) rfl (wanted_yes 8 41 false hg (by rw [hs]; omega) rfl rfl rfl rfl) (exec_loadR 60 _ rfl g3 0 (show ax.eval (.tmp 11) = .pointer (some ⟨g3, 0, none⟩) from t11) hr [.int .u64 ((Rg.nar ⟨⟨a, b⟩, ⟨c, d⟩⟩).u.lo), .int .u64 ((Rg.nar ⟨⟨a, b⟩, ⟨c, d⟩⟩).u.hi), .int .i64 ((Rg.nar ⟨⟨a, b⟩, ⟨c, d⟩⟩).s.lo), .int .i64 ((Rg.nar ⟨⟨a, b⟩, ⟨c, d⟩⟩).s.hi)] rfl _ Try.underlying60 rfl (by kernel_rfl)) ⟨_, rfl, tab_put rfl hs rfl rfl, hS.same 9 rfl⟩
    ·
     have hg : ax.tmps.getD 41 undef = .bool false := (hdone 0 _ rfl rfl).2 _ rfl
     have hr := hS.rowNi 0 rfl
     exact wpOp_valw (v := .agg #[.int .u64 a, .int .u64 b, .int .i64 c, .int .i64 d]) (w' := wx) rfl (wanted_yes 8 41 false hg (by rw [hs]; omega) rfl rfl rfl rfl) (exec_loadR 60 _ rfl g1 0 (show ax.eval (.tmp 6) = .pointer (some ⟨g1, 0, none⟩) from t6) hr [.int .u64 a, .int .u64 b, .int .i64 c, .int .i64 d] rfl _ Try.underlying60 rfl (by kernel_rfl)) ⟨_, rfl, tab_put rfl hs rfl rfl, hS.same 10 rfl⟩
    ·
     have hg : ax.tmps.getD 41 undef = .bool false := (hdone 2 _ rfl rfl).2 _ rfl
     have s42 : ax.tmps.getD 42 undef = .agg #[.int .u64 ((Rg.nar ⟨⟨a, b⟩, ⟨c, d⟩⟩).u.lo), .int .u64 ((Rg.nar ⟨⟨a, b⟩, ⟨c, d⟩⟩).u.hi), .int .i64 ((Rg.nar ⟨⟨a, b⟩, ⟨c, d⟩⟩).s.lo), .int .i64 ((Rg.nar ⟨⟨a, b⟩, ⟨c, d⟩⟩).s.hi)] := (hdone 0 _ rfl rfl).2 _ rfl
     have s43 : ax.tmps.getD 43 undef = .agg #[.int .u64 a, .int .u64 b, .int .i64 c, .int .i64 d] := (hdone 1 _ rfl rfl).2 _ rfl
     refine wpOp_callw (args := #[.agg #[.int .u64 ((Rg.nar ⟨⟨a, b⟩, ⟨c, d⟩⟩).u.lo), .int .u64 ((Rg.nar ⟨⟨a, b⟩, ⟨c, d⟩⟩).u.hi), .int .i64 ((Rg.nar ⟨⟨a, b⟩, ⟨c, d⟩⟩).s.lo), .int .i64 ((Rg.nar ⟨⟨a, b⟩, ⟨c, d⟩⟩).s.hi)], .agg #[.int .u64 a, .int .u64 b, .int .i64 c, .int .i64 d]]) rfl (wanted_yes 8 41 false hg (by rw [hs]; omega) rfl rfl rfl rfl) (exec_call rfl rfl rfl (args2 (show ax.eval (.tmp 42) = .agg #[.int .u64 ((Rg.nar ⟨⟨a, b⟩, ⟨c, d⟩⟩).u.lo), .int .u64 ((Rg.nar ⟨⟨a, b⟩, ⟨c, d⟩⟩).u.hi), .int .i64 ((Rg.nar ⟨⟨a, b⟩, ⟨c, d⟩⟩).s.lo), .int .i64 ((Rg.nar ⟨⟨a, b⟩, ⟨c, d⟩⟩).s.hi)] from s42) (show ax.eval (.tmp 43) = .agg #[.int .u64 a, .int .u64 b, .int .i64 c, .int .i64 d] from s43)) Try.func40 (by decide +kernel) rfl) ?_
     · refine (in_n ((Rg.nar ⟨⟨a, b⟩, ⟨c, d⟩⟩).u.lo) ((Rg.nar ⟨⟨a, b⟩, ⟨c, d⟩⟩).u.hi) ((Rg.nar ⟨⟨a, b⟩, ⟨c, d⟩⟩).s.lo) ((Rg.nar ⟨⟨a, b⟩, ⟨c, d⟩⟩).s.hi) a b c d wx).mono ?_
       rintro e w' ⟨rfl, b9⟩
       exact ⟨_, rfl, _, rfl, tab_put rfl hs rfl (congrArg Value.bool (nar_in (KN.out Ffk1.out).1)), hS.quiet 11 rfl b9⟩
    ·
     have hg : ax.tmps.getD 41 undef = .bool false := (hdone 1 _ rfl rfl).2 _ rfl
     have s44 : ax.tmps.getD 44 undef = .bool true := (hdone 0 _ rfl rfl).2 _ rfl
     exact wpOp_valw (v := .bool false) (w' := wx) rfl (wanted_yes 8 41 false hg (by rw [hs]; omega) rfl rfl rfl rfl) (by simp [execOp, Act.eval, s44, go_sem]) ⟨_, rfl, tab_put rfl hs rfl rfl, hS.same 12 rfl⟩
    ·
     have s41 : ax.tmps.getD 41 undef = .bool false := (hdone 0 _ rfl rfl).2 _ rfl
     have s45 : ax.tmps.getD 45 undef = .bool false := (hdone 1 _ rfl rfl).2 _ rfl
     exact wpOp_val (v := .bool false) (w' := wx) rfl rfl (by simp [execOp, Act.eval, s41, s45, go_sem]) ⟨_, rfl, tab_put rfl hs rfl rfl, hS.same 13 rfl⟩
    ·
     have s46 : ax.tmps.getD 46 undef = .bool false := (hdone 0 _ rfl rfl).2 _ rfl
     exact wpOp_val (v := .bool false) (w' := wx) rfl rfl (by simp [execOp, Act.eval, s46]) ⟨_, rfl, tab_put rfl hs rfl rfl, hS.same 14 rfl⟩
    ·
     have hg : ax.tmps.getD 47 undef = .bool false := (hdone 0 _ rfl rfl).2 _ rfl
     have hr := hS.rowNi 0 rfl
     exact wpOp_valw (v := .agg #[.int .u64 a, .int .u64 b, .int .i64 c, .int .i64 d]) (w' := wx) rfl (wanted_yes 14 47 false hg (by rw [hs]; omega) rfl rfl rfl rfl) (exec_loadR 60 _ rfl g1 0 (show ax.eval (.tmp 6) = .pointer (some ⟨g1, 0, none⟩) from t6) hr [.int .u64 a, .int .u64 b, .int .i64 c, .int .i64 d] rfl _ Try.underlying60 rfl (by kernel_rfl)) ⟨_, rfl, tab_put rfl hs rfl rfl, hS.same 15 rfl⟩
    ·
     have hg : ax.tmps.getD 47 undef = .bool false := (hdone 0 _ rfl rfl).2 _ rfl
     have hr := hS.rowNi 1 rfl
     exact wpOp_valw (v := .agg #[.int .u64 p, .int .u64 q, .int .i64 r, .int .i64 t]) (w' := wx) rfl (wanted_yes 14 47 false hg (by rw [hs]; omega) rfl rfl rfl rfl) (exec_loadR 60 _ rfl g2 0 (show ax.eval (.tmp 7) = .pointer (some ⟨g2, 0, none⟩) from t7) hr [.int .u64 p, .int .u64 q, .int .i64 r, .int .i64 t] rfl _ Try.underlying60 rfl (by kernel_rfl)) ⟨_, rfl, tab_put rfl hs rfl rfl, hS.same 16 rfl⟩
    ·
     have hg : ax.tmps.getD 47 undef = .bool false := (hdone 2 _ rfl rfl).2 _ rfl
     have s48 : ax.tmps.getD 48 undef = .agg #[.int .u64 a, .int .u64 b, .int .i64 c, .int .i64 d] := (hdone 0 _ rfl rfl).2 _ rfl
     have s49 : ax.tmps.getD 49 undef = .agg #[.int .u64 p, .int .u64 q, .int .i64 r, .int .i64 t] := (hdone 1 _ rfl rfl).2 _ rfl
     refine wpOp_callw (args := #[.agg #[.int .u64 a, .int .u64 b, .int .i64 c, .int .i64 d], .agg #[.int .u64 p, .int .u64 q, .int .i64 r, .int .i64 t]]) rfl (wanted_yes 14 47 false hg (by rw [hs]; omega) rfl rfl rfl rfl) (exec_call rfl rfl rfl (args2 (show ax.eval (.tmp 48) = .agg #[.int .u64 a, .int .u64 b, .int .i64 c, .int .i64 d] from s48) (show ax.eval (.tmp 49) = .agg #[.int .u64 p, .int .u64 q, .int .i64 r, .int .i64 t] from s49)) Try.func38 (by decide +kernel) rfl) ?_
     · refine (join_n a b c d p q r t wx).mono ?_
       rintro e w' ⟨rfl, b9⟩
       exact ⟨_, rfl, _, rfl, tab_put rfl hs rfl rfl, hS.quiet 17 rfl b9⟩
    ·
     have hg : ax.tmps.getD 47 undef = .bool false := (hdone 0 _ rfl rfl).2 _ rfl
     exact wpOp_valw (v := .int .u64 v) (w' := wx) rfl (wanted_yes 14 47 false hg (by rw [hs]; omega) rfl rfl rfl rfl) (by simp [execOp, Act.eval, t3]) ⟨_, rfl, tab_put rfl hs rfl rfl, hS.same 18 rfl⟩
    ·
     have hg : ax.tmps.getD 47 undef = .bool false := (hdone 3 _ rfl rfl).2 _ rfl
     have s50 : ax.tmps.getD 50 undef = .agg #[.int .u64 ((Rg.joinR ⟨⟨a, b⟩, ⟨c, d⟩⟩ ⟨⟨p, q⟩, ⟨r, t⟩⟩).u.lo), .int .u64 ((Rg.joinR ⟨⟨a, b⟩, ⟨c, d⟩⟩ ⟨⟨p, q⟩, ⟨r, t⟩⟩).u.hi), .int .i64 ((Rg.joinR ⟨⟨a, b⟩, ⟨c, d⟩⟩ ⟨⟨p, q⟩, ⟨r, t⟩⟩).s.lo), .int .i64 ((Rg.joinR ⟨⟨a, b⟩, ⟨c, d⟩⟩ ⟨⟨p, q⟩, ⟨r, t⟩⟩).s.hi)] := (hdone 0 _ rfl rfl).2 _ rfl
     have s51 : ax.tmps.getD 51 undef = .int .u64 v := (hdone 1 _ rfl rfl).2 _ rfl
     refine wpOp_callw (args := #[.agg #[.int .u64 ((Rg.joinR ⟨⟨a, b⟩, ⟨c, d⟩⟩ ⟨⟨p, q⟩, ⟨r, t⟩⟩).u.lo), .int .u64 ((Rg.joinR ⟨⟨a, b⟩, ⟨c, d⟩⟩ ⟨⟨p, q⟩, ⟨r, t⟩⟩).u.hi), .int .i64 ((Rg.joinR ⟨⟨a, b⟩, ⟨c, d⟩⟩ ⟨⟨p, q⟩, ⟨r, t⟩⟩).s.lo), .int .i64 ((Rg.joinR ⟨⟨a, b⟩, ⟨c, d⟩⟩ ⟨⟨p, q⟩, ⟨r, t⟩⟩).s.hi)], .int .u64 v]) rfl (wanted_yes 14 47 false hg (by rw [hs]; omega) rfl rfl rfl rfl) (exec_call rfl rfl rfl (args2 (show ax.eval (.tmp 50) = .agg #[.int .u64 ((Rg.joinR ⟨⟨a, b⟩, ⟨c, d⟩⟩ ⟨⟨p, q⟩, ⟨r, t⟩⟩).u.lo), .int .u64 ((Rg.joinR ⟨⟨a, b⟩, ⟨c, d⟩⟩ ⟨⟨p, q⟩, ⟨r, t⟩⟩).u.hi), .int .i64 ((Rg.joinR ⟨⟨a, b⟩, ⟨c, d⟩⟩ ⟨⟨p, q⟩, ⟨r, t⟩⟩).s.lo), .int .i64 ((Rg.joinR ⟨⟨a, b⟩, ⟨c, d⟩⟩ ⟨⟨p, q⟩, ⟨r, t⟩⟩).s.hi)] from s50) (show ax.eval (.tmp 51) = .int .u64 v from s51)) Try.func36 (by decide +kernel) rfl) ?_
     · refine (has_n ((Rg.joinR ⟨⟨a, b⟩, ⟨c, d⟩⟩ ⟨⟨p, q⟩, ⟨r, t⟩⟩).u.lo) ((Rg.joinR ⟨⟨a, b⟩, ⟨c, d⟩⟩ ⟨⟨p, q⟩, ⟨r, t⟩⟩).u.hi) ((Rg.joinR ⟨⟨a, b⟩, ⟨c, d⟩⟩ ⟨⟨p, q⟩, ⟨r, t⟩⟩).s.lo) ((Rg.joinR ⟨⟨a, b⟩, ⟨c, d⟩⟩ ⟨⟨p, q⟩, ⟨r, t⟩⟩).s.hi) v wx).mono ?_
       rintro e w' ⟨rfl, b9⟩
       exact ⟨_, rfl, _, rfl, tab_put rfl hs rfl (congrArg Value.bool (join_l Ffk1.out (has_may Ffk2.out))), hS.quiet 19 rfl b9⟩
    ·
     have hg : ax.tmps.getD 47 undef = .bool false := (hdone 1 _ rfl rfl).2 _ rfl
     have s52 : ax.tmps.getD 52 undef = .bool true := (hdone 0 _ rfl rfl).2 _ rfl
     exact wpOp_valw (v := .bool false) (w' := wx) rfl (wanted_yes 14 47 false hg (by rw [hs]; omega) rfl rfl rfl rfl) (by simp [execOp, Act.eval, s52, go_sem]) ⟨_, rfl, tab_put rfl hs rfl rfl, hS.same 20 rfl⟩
    ·
     have s47 : ax.tmps.getD 47 undef = .bool false := (hdone 0 _ rfl rfl).2 _ rfl
     have s53 : ax.tmps.getD 53 undef = .bool false := (hdone 1 _ rfl rfl).2 _ rfl
     exact wpOp_val (v := .bool false) (w' := wx) rfl rfl (by simp [execOp, Act.eval, s47, s53, go_sem]) ⟨_, rfl, tab_put rfl hs rfl rfl, hS.same 21 rfl⟩
    ·
     have s54 : ax.tmps.getD 54 undef = .bool false := (hdone 0 _ rfl rfl).2 _ rfl
     exact wpOp_val (v := .bool false) (w' := wx) rfl rfl (by simp [execOp, Act.eval, s54]) ⟨_, rfl, tab_put rfl hs rfl rfl, hS.same 22 rfl⟩
    ·
     have hg : ax.tmps.getD 55 undef = .bool false := (hdone 0 _ rfl rfl).2 _ rfl
     have hr := hS.rowNi 0 rfl
     exact wpOp_valw (v := .agg #[.int .u64 a, .int .u64 b, .int .i64 c, .int .i64 d]) (w' := wx) rfl (wanted_yes 22 55 false hg (by rw [hs]; omega) rfl rfl rfl rfl) (exec_loadR 60 _ rfl g1 0 (show ax.eval (.tmp 6) = .pointer (some ⟨g1, 0, none⟩) from t6) hr [.int .u64 a, .int .u64 b, .int .i64 c, .int .i64 d] rfl _ Try.underlying60 rfl (by kernel_rfl)) ⟨_, rfl, tab_put rfl hs rfl rfl, hS.same 23 rfl⟩
    ·
     have hg : ax.tmps.getD 55 undef = .bool false := (hdone 0 _ rfl rfl).2 _ rfl
     have hr := hS.rowNi 1 rfl
     exact wpOp_valw (v := .agg #[.int .u64 p, .int .u64 q, .int .i64 r, .int .i64 t]) (w' := wx) rfl (wanted_yes 22 55 false hg (by rw [hs]; omega) rfl rfl rfl rfl) (exec_loadR 60 _ rfl g2 0 (show ax.eval (.tmp 7) = .pointer (some ⟨g2, 0, none⟩) from t7) hr [.int .u64 p, .int .u64 q, .int .i64 r, .int .i64 t] rfl _ Try.underlying60 rfl (by kernel_rfl)) ⟨_, rfl, tab_put rfl hs rfl rfl, hS.same 24 rfl⟩
    ·
     have hg : ax.tmps.getD 55 undef = .bool false := (hdone 2 _ rfl rfl).2 _ rfl
     have s56 : ax.tmps.getD 56 undef = .agg #[.int .u64 a, .int .u64 b, .int .i64 c, .int .i64 d] := (hdone 0 _ rfl rfl).2 _ rfl
     have s57 : ax.tmps.getD 57 undef = .agg #[.int .u64 p, .int .u64 q, .int .i64 r, .int .i64 t] := (hdone 1 _ rfl rfl).2 _ rfl
     refine wpOp_callw (args := #[.agg #[.int .u64 a, .int .u64 b, .int .i64 c, .int .i64 d], .agg #[.int .u64 p, .int .u64 q, .int .i64 r, .int .i64 t]]) rfl (wanted_yes 22 55 false hg (by rw [hs]; omega) rfl rfl rfl rfl) (exec_call rfl rfl rfl (args2 (show ax.eval (.tmp 56) = .agg #[.int .u64 a, .int .u64 b, .int .i64 c, .int .i64 d] from s56) (show ax.eval (.tmp 57) = .agg #[.int .u64 p, .int .u64 q, .int .i64 r, .int .i64 t] from s57)) Try.func38 (by decide +kernel) rfl) ?_
     · refine (join_n a b c d p q r t wx).mono ?_
       rintro e w' ⟨rfl, b9⟩
       exact ⟨_, rfl, _, rfl, tab_put rfl hs rfl rfl, hS.quiet 25 rfl b9⟩
    ·
     have hg : ax.tmps.getD 55 undef = .bool false := (hdone 0 _ rfl rfl).2 _ rfl
     exact wpOp_valw (v := .int .u64 u) (w' := wx) rfl (wanted_yes 22 55 false hg (by rw [hs]; omega) rfl rfl rfl rfl) (by simp [execOp, Act.eval, t4]) ⟨_, rfl, tab_put rfl hs rfl rfl, hS.same 26 rfl⟩
    ·
     have hg : ax.tmps.getD 55 undef = .bool false := (hdone 3 _ rfl rfl).2 _ rfl
     have s58 : ax.tmps.getD 58 undef = .agg #[.int .u64 ((Rg.joinR ⟨⟨a, b⟩, ⟨c, d⟩⟩ ⟨⟨p, q⟩, ⟨r, t⟩⟩).u.lo), .int .u64 ((Rg.joinR ⟨⟨a, b⟩, ⟨c, d⟩⟩ ⟨⟨p, q⟩, ⟨r, t⟩⟩).u.hi), .int .i64 ((Rg.joinR ⟨⟨a, b⟩, ⟨c, d⟩⟩ ⟨⟨p, q⟩, ⟨r, t⟩⟩).s.lo), .int .i64 ((Rg.joinR ⟨⟨a, b⟩, ⟨c, d⟩⟩ ⟨⟨p, q⟩, ⟨r, t⟩⟩).s.hi)] := (hdone 0 _ rfl rfl).2 _ rfl
     have s59 : ax.tmps.getD 59 undef = .int .u64 u := (hdone 1 _ rfl rfl).2 _ rfl
     refine wpOp_callw (args := #[.agg #[.int .u64 ((Rg.joinR ⟨⟨a, b⟩, ⟨c, d⟩⟩ ⟨⟨p, q⟩, ⟨r, t⟩⟩).u.lo), .int .u64 ((Rg.joinR ⟨⟨a, b⟩, ⟨c, d⟩⟩ ⟨⟨p, q⟩, ⟨r, t⟩⟩).u.hi), .int .i64 ((Rg.joinR ⟨⟨a, b⟩, ⟨c, d⟩⟩ ⟨⟨p, q⟩, ⟨r, t⟩⟩).s.lo), .int .i64 ((Rg.joinR ⟨⟨a, b⟩, ⟨c, d⟩⟩ ⟨⟨p, q⟩, ⟨r, t⟩⟩).s.hi)], .int .u64 u]) rfl (wanted_yes 22 55 false hg (by rw [hs]; omega) rfl rfl rfl rfl) (exec_call rfl rfl rfl (args2 (show ax.eval (.tmp 58) = .agg #[.int .u64 ((Rg.joinR ⟨⟨a, b⟩, ⟨c, d⟩⟩ ⟨⟨p, q⟩, ⟨r, t⟩⟩).u.lo), .int .u64 ((Rg.joinR ⟨⟨a, b⟩, ⟨c, d⟩⟩ ⟨⟨p, q⟩, ⟨r, t⟩⟩).u.hi), .int .i64 ((Rg.joinR ⟨⟨a, b⟩, ⟨c, d⟩⟩ ⟨⟨p, q⟩, ⟨r, t⟩⟩).s.lo), .int .i64 ((Rg.joinR ⟨⟨a, b⟩, ⟨c, d⟩⟩ ⟨⟨p, q⟩, ⟨r, t⟩⟩).s.hi)] from s58) (show ax.eval (.tmp 59) = .int .u64 u from s59)) Try.func36 (by decide +kernel) rfl) ?_
     · refine (has_n ((Rg.joinR ⟨⟨a, b⟩, ⟨c, d⟩⟩ ⟨⟨p, q⟩, ⟨r, t⟩⟩).u.lo) ((Rg.joinR ⟨⟨a, b⟩, ⟨c, d⟩⟩ ⟨⟨p, q⟩, ⟨r, t⟩⟩).u.hi) ((Rg.joinR ⟨⟨a, b⟩, ⟨c, d⟩⟩ ⟨⟨p, q⟩, ⟨r, t⟩⟩).s.lo) ((Rg.joinR ⟨⟨a, b⟩, ⟨c, d⟩⟩ ⟨⟨p, q⟩, ⟨r, t⟩⟩).s.hi) u wx).mono ?_
       rintro e w' ⟨rfl, b9⟩
       exact ⟨_, rfl, _, rfl, tab_put rfl hs rfl (congrArg Value.bool (join_r Ffk2.out (has_may Ffk1.out))), hS.quiet 27 rfl b9⟩
    ·
     have hg : ax.tmps.getD 55 undef = .bool false := (hdone 1 _ rfl rfl).2 _ rfl
     have s60 : ax.tmps.getD 60 undef = .bool true := (hdone 0 _ rfl rfl).2 _ rfl
     exact wpOp_valw (v := .bool false) (w' := wx) rfl (wanted_yes 22 55 false hg (by rw [hs]; omega) rfl rfl rfl rfl) (by simp [execOp, Act.eval, s60, go_sem]) ⟨_, rfl, tab_put rfl hs rfl rfl, hS.same 28 rfl⟩
    ·
     have s55 : ax.tmps.getD 55 undef = .bool false := (hdone 0 _ rfl rfl).2 _ rfl
     have s61 : ax.tmps.getD 61 undef = .bool false := (hdone 1 _ rfl rfl).2 _ rfl
     exact wpOp_val (v := .bool false) (w' := wx) rfl rfl (by simp [execOp, Act.eval, s55, s61, go_sem]) ⟨_, rfl, tab_put rfl hs rfl rfl, hS.same 29 rfl⟩
    ·
     have s62 : ax.tmps.getD 62 undef = .bool false := (hdone 0 _ rfl rfl).2 _ rfl
     exact wpOp_val (v := .bool false) (w' := wx) rfl rfl (by simp [execOp, Act.eval, s62]) ⟨_, rfl, tab_put rfl hs rfl rfl, hS.same 30 rfl⟩
    ·
     have hg : ax.tmps.getD 63 undef = .bool false := (hdone 0 _ rfl rfl).2 _ rfl
     have hr := hS.rowNi 0 rfl
     exact wpOp_valw (v := .agg #[.int .u64 a, .int .u64 b, .int .i64 c, .int .i64 d]) (w' := wx) rfl (wanted_yes 30 63 false hg (by rw [hs]; omega) rfl rfl rfl rfl) (exec_loadR 60 _ rfl g1 0 (show ax.eval (.tmp 6) = .pointer (some ⟨g1, 0, none⟩) from t6) hr [.int .u64 a, .int .u64 b, .int .i64 c, .int .i64 d] rfl _ Try.underlying60 rfl (by kernel_rfl)) ⟨_, rfl, tab_put rfl hs rfl rfl, hS.same 31 rfl⟩
    ·
     have hg : ax.tmps.getD 63 undef = .bool false := (hdone 1 _ rfl rfl).2 _ rfl
     have s64 : ax.tmps.getD 64 undef = .agg #[.int .u64 a, .int .u64 b, .int .i64 c, .int .i64 d] := (hdone 0 _ rfl rfl).2 _ rfl
     refine wpOp_callw (args := #[.agg #[.int .u64 a, .int .u64 b, .int .i64 c, .int .i64 d]]) rfl (wanted_yes 30 63 false hg (by rw [hs]; omega) rfl rfl rfl rfl) (exec_call rfl rfl rfl (args1 (show ax.eval (.tmp 64) = .agg #[.int .u64 a, .int .u64 b, .int .i64 c, .int .i64 d] from s64)) Try.func44 (by decide +kernel) rfl) ?_
     · refine (low_n a b c d wx).mono ?_
       rintro e w' ⟨rfl, b9⟩
       exact ⟨_, rfl, _, rfl, tab_put rfl hs rfl rfl, hS.quiet 32 rfl b9⟩
    ·
     have hg : ax.tmps.getD 63 undef = .bool false := (hdone 0 _ rfl rfl).2 _ rfl
     exact wpOp_valw (v := .int .u64 v) (w' := wx) rfl (wanted_yes 30 63 false hg (by rw [hs]; omega) rfl rfl rfl rfl) (by simp [execOp, Act.eval, t3]) ⟨_, rfl, tab_put rfl hs rfl rfl, hS.same 33 rfl⟩
    ·
     have hg : ax.tmps.getD 63 undef = .bool false := (hdone 2 _ rfl rfl).2 _ rfl
     have s66 : ax.tmps.getD 66 undef = .int .u64 v := (hdone 0 _ rfl rfl).2 _ rfl
     refine wpOp_callw (args := #[.int .u64 v, .int .i8 32]) rfl (wanted_yes 30 63 false hg (by rw [hs]; omega) rfl rfl rfl rfl) (exec_call rfl rfl rfl (args2 (show ax.eval (.tmp 66) = .int .u64 v from s66) (show ax.eval (.const (.int .i8 32)) = .int .i8 32 from rfl)) Try.func47 (by decide +kernel) rfl) ?_
     · refine (cut32_any v wx HN.out.1.1 HN.out.1.2).mono ?_
       rintro e w' ⟨rfl, b9⟩
       exact ⟨_, rfl, _, rfl, tab_put rfl hs rfl rfl, hS.quiet 34 rfl b9⟩
    ·
     have hg : ax.tmps.getD 63 undef = .bool false := (hdone 3 _ rfl rfl).2 _ rfl
     have s65 : ax.tmps.getD 65 undef = .agg #[.int .u64 ((Rg.low ⟨⟨a, b⟩, ⟨c, d⟩⟩).u.lo), .int .u64 ((Rg.low ⟨⟨a, b⟩, ⟨c, d⟩⟩).u.hi), .int .i64 ((Rg.low ⟨⟨a, b⟩, ⟨c, d⟩⟩).s.lo), .int .i64 ((Rg.low ⟨⟨a, b⟩, ⟨c, d⟩⟩).s.hi)] := (hdone 0 _ rfl rfl).2 _ rfl
     have s67 : ax.tmps.getD 67 undef = .int .u64 (v % 4294967296) := (hdone 1 _ rfl rfl).2 _ rfl
     refine wpOp_callw (args := #[.agg #[.int .u64 ((Rg.low ⟨⟨a, b⟩, ⟨c, d⟩⟩).u.lo), .int .u64 ((Rg.low ⟨⟨a, b⟩, ⟨c, d⟩⟩).u.hi), .int .i64 ((Rg.low ⟨⟨a, b⟩, ⟨c, d⟩⟩).s.lo), .int .i64 ((Rg.low ⟨⟨a, b⟩, ⟨c, d⟩⟩).s.hi)], .int .u64 (v % 4294967296)]) rfl (wanted_yes 30 63 false hg (by rw [hs]; omega) rfl rfl rfl rfl) (exec_call rfl rfl rfl (args2 (show ax.eval (.tmp 65) = .agg #[.int .u64 ((Rg.low ⟨⟨a, b⟩, ⟨c, d⟩⟩).u.lo), .int .u64 ((Rg.low ⟨⟨a, b⟩, ⟨c, d⟩⟩).u.hi), .int .i64 ((Rg.low ⟨⟨a, b⟩, ⟨c, d⟩⟩).s.lo), .int .i64 ((Rg.low ⟨⟨a, b⟩, ⟨c, d⟩⟩).s.hi)] from s65) (show ax.eval (.tmp 67) = .int .u64 (v % 4294967296) from s67)) Try.func36 (by decide +kernel) rfl) ?_
     · refine (has_n ((Rg.low ⟨⟨a, b⟩, ⟨c, d⟩⟩).u.lo) ((Rg.low ⟨⟨a, b⟩, ⟨c, d⟩⟩).u.hi) ((Rg.low ⟨⟨a, b⟩, ⟨c, d⟩⟩).s.lo) ((Rg.low ⟨⟨a, b⟩, ⟨c, d⟩⟩).s.hi) (v % 4294967296) wx).mono ?_
       rintro e w' ⟨rfl, b9⟩
       exact ⟨_, rfl, _, rfl, tab_put rfl hs rfl (congrArg Value.bool (KL.out Ffk1.out)), hS.quiet 35 rfl b9⟩
    ·
     have hg : ax.tmps.getD 63 undef = .bool false := (hdone 1 _ rfl rfl).2 _ rfl
     have s68 : ax.tmps.getD 68 undef = .bool true := (hdone 0 _ rfl rfl).2 _ rfl
     exact wpOp_valw (v := .bool false) (w' := wx) rfl (wanted_yes 30 63 false hg (by rw [hs]; omega) rfl rfl rfl rfl) (by simp [execOp, Act.eval, s68, go_sem]) ⟨_, rfl, tab_put rfl hs rfl rfl, hS.same 36 rfl⟩
    ·
     have s63 : ax.tmps.getD 63 undef = .bool false := (hdone 0 _ rfl rfl).2 _ rfl
     have s69 : ax.tmps.getD 69 undef = .bool false := (hdone 1 _ rfl rfl).2 _ rfl
     exact wpOp_val (v := .bool false) (w' := wx) rfl rfl (by simp [execOp, Act.eval, s63, s69, go_sem]) ⟨_, rfl, tab_put rfl hs rfl rfl, hS.same 37 rfl⟩
  intro a4 w4 fl d4 z4 rest4 R4 hfl hS
  obtain ⟨B4, n4, hBs, hAs, hPs⟩ := hS.finish hfl rfl
  replace d4 := d4.trans d3
  replace z4 := z4.trans z3
  obtain ⟨⟨-, b_g1_4⟩, ⟨-, b_g2_4⟩, ⟨l_g3_4, b_g3_4⟩, -⟩ := hBs
  replace l_g3_4 : g3 < w3.heap.size := l_g3_4
  have s0_4 := (rest4 0 (not_of (by kernel_rfl))).trans s0_3
  have s3_4 := (rest4 3 (not_of (by kernel_rfl))).trans s3_3
  have s4_4 := (rest4 4 (not_of (by kernel_rfl))).trans s4_3
  have s6_4 := (rest4 6 (not_of (by kernel_rfl))).trans s6_3
  have s7_4 := (rest4 7 (not_of (by kernel_rfl))).trans s7_3
  have s10_4 := (rest4 10 (not_of (by kernel_rfl))).trans s10_3
  have s70_4 : a4.tmps.getD 70 undef = .bool false := R4 37 _ rfl
  clear R4 rest4 hS hfl hPs hAs
  clear u_g3 s0_3 s3_3 s4_3 s6_3 s7_3 s10_3 s12_3 b_g1_3 b_g2_3 b_g3_3 d3 z3
  refine wp_cond_false (show a4.tmps.getD 70 undef = .bool false from s70_4) ?_
  refine wp_skip ?_
  refine wp_seq ?_
  refine wp_regx (SX W w4.heap.size [⟨g1, 60, (cR a b c d), none, #[]⟩, ⟨g2, 60, (cR p q r t), none, #[]⟩, ⟨g3, 60, (cR ((Rg.nar ⟨⟨a, b⟩, ⟨c, d⟩⟩).u.lo) ((Rg.nar ⟨⟨a, b⟩, ⟨c, d⟩⟩).u.hi) ((Rg.nar ⟨⟨a, b⟩, ⟨c, d⟩⟩).s.lo) ((Rg.nar ⟨⟨a, b⟩, ⟨c, d⟩⟩).s.hi)), none, #[]⟩] []) (TabX [fun vx => vx = .int .i8 op, fun vx => vx = .int .u64 v, fun vx => vx = .int .u64 u, fun vx => vx = .tuple #[.int .u64 (doI op 64 v u), .int .i64 (doE op 64)], fun vx => vx = .tuple #[.int .u64 (doI op 64 v u), .int .i64 (doE op 64)], fun vx => vx = .int .u64 (doI op 64 v u), fun vx => vx = .int .i64 (doE op 64), fun vx => vx = .int .u64 (doI op 64 v u), fun vx => vx = .int .i64 (doE op 64)]) (by kernel_rfl) (back_of (by kernel_rfl)) (dst_of (by kernel_rfl)) (in_ofz (by kernel_rfl) z4) (fun fl w1 hfl hw => SX.start' hw B4 hfl rfl ⟨b_g1_4, b_g2_4, b_g3_4, trivial⟩) ?h9 ?_
  case h9 =>
    intro ix ox ax wx fl ho hS hfi clo hsz hrest hdone hund
    have t0 := (hrest 0 (not_of (by kernel_rfl))).trans s0_4
    have t3 := (hrest 3 (not_of (by kernel_rfl))).trans s3_4
    have t4 := (hrest 4 (not_of (by kernel_rfl))).trans s4_4
    have hs : ax.tmps.size = 108 := hsz.trans z4
    have hi : ix < 9 := (Array.getElem?_eq_some_iff.1 ho).1
    clear hrest hsz hund
    obtain rfl | rfl | rfl | rfl | rfl | rfl | rfl | rfl | rfl : ix = 0 ∨ ix = 1 ∨ ix = 2 ∨ ix = 3 ∨ ix = 4 ∨ ix = 5 ∨ ix = 6 ∨ ix = 7 ∨ ix = 8 := by omega
    all_goals obtain rfl := Option.some.inj (show some _ = some ox from ho)
    ·
     exact wpOp_val (v := .int .i8 op) (w' := wx) rfl rfl (by simp [execOp, Act.eval, t0]) ⟨_, rfl, tab_put rfl hs rfl rfl, hS.same 0 rfl⟩
    ·
     exact wpOp_val (v := .int .u64 v) (w' := wx) rfl rfl (by simp [execOp, Act.eval, t3]) ⟨_, rfl, tab_put rfl hs rfl rfl, hS.same 1 rfl⟩
    ·
     exact wpOp_val (v := .int .u64 u) (w' := wx) rfl rfl (by simp [execOp, Act.eval, t4]) ⟨_, rfl, tab_put rfl hs rfl rfl, hS.same 2 rfl⟩
    ·
     have s72 : ax.tmps.getD 72 undef = .int .i8 op := (hdone 0 _ rfl rfl).2 _ rfl
     have s73 : ax.tmps.getD 73 undef = .int .u64 v := (hdone 1 _ rfl rfl).2 _ rfl
     have s74 : ax.tmps.getD 74 undef = .int .u64 u := (hdone 2 _ rfl rfl).2 _ rfl
     refine wpOp_call (args := #[.int .i8 op, .int .i8 64, .int .u64 v, .int .u64 u]) rfl rfl (exec_call rfl rfl rfl (args4 (show ax.eval (.tmp 72) = .int .i8 op from s72) (show ax.eval (.const (.int .i8 64)) = .int .i8 64 from rfl) (show ax.eval (.tmp 73) = .int .u64 v from s73) (show ax.eval (.tmp 74) = .int .u64 u from s74)) Try.func48 (by decide +kernel) rfl) ?_
     · refine (do_any op 64 v u wx HN.out.1.1 HN.out.1.2 HN.out.2.1 HN.out.2.2).mono ?_
       rintro e w' ⟨rfl, b9⟩
       exact ⟨_, rfl, _, rfl, tab_put rfl hs rfl rfl, hS.quiet 3 rfl b9⟩
    ·
     have s75 : ax.tmps.getD 75 undef = .tuple #[.int .u64 (doI op 64 v u), .int .i64 (doE op 64)] := (hdone 0 _ rfl rfl).2 _ rfl
     exact wpOp_val (v := .tuple #[.int .u64 (doI op 64 v u), .int .i64 (doE op 64)]) (w' := wx) rfl rfl (by simp [execOp, Act.eval, s75]) ⟨_, rfl, tab_put rfl hs rfl rfl, hS.same 4 rfl⟩
    ·
     have s71 : ax.tmps.getD 71 undef = .tuple #[.int .u64 (doI op 64 v u), .int .i64 (doE op 64)] := (hdone 0 _ rfl rfl).2 _ rfl
     exact wpOp_val (v := .int .u64 (doI op 64 v u)) (w' := wx) rfl rfl (by simp [execOp, Act.eval, s71, go_sem]) ⟨_, rfl, tab_put rfl hs rfl rfl, hS.same 5 rfl⟩
    ·
     have s71 : ax.tmps.getD 71 undef = .tuple #[.int .u64 (doI op 64 v u), .int .i64 (doE op 64)] := (hdone 0 _ rfl rfl).2 _ rfl
     exact wpOp_val (v := .int .i64 (doE op 64)) (w' := wx) rfl rfl (by simp [execOp, Act.eval, s71, go_sem]) ⟨_, rfl, tab_put rfl hs rfl rfl, hS.same 6 rfl⟩
    ·
     have s76 : ax.tmps.getD 76 undef = .int .u64 (doI op 64 v u) := (hdone 0 _ rfl rfl).2 _ rfl
     exact wpOp_val (v := .int .u64 (doI op 64 v u)) (w' := wx) rfl rfl (by simp [execOp, Act.eval, s76]) ⟨_, rfl, tab_put rfl hs rfl rfl, hS.same 7 rfl⟩
    ·
     have s77 : ax.tmps.getD 77 undef = .int .i64 (doE op 64) := (hdone 0 _ rfl rfl).2 _ rfl
     exact wpOp_val (v := .int .i64 (doE op 64)) (w' := wx) rfl rfl (by simp [execOp, Act.eval, s77]) ⟨_, rfl, tab_put rfl hs rfl rfl, hS.same 8 rfl⟩
  intro a5 w5 fl d5 z5 rest5 R5 hfl hS
  obtain ⟨B5, n5, hBs, hAs, hPs⟩ := hS.finish hfl rfl
  replace d5 := d5.trans d4
  replace z5 := z5.trans z4
  obtain ⟨⟨-, b_g1_5⟩, ⟨-, b_g2_5⟩, ⟨-, b_g3_5⟩, -⟩ := hBs
  have s0_5 := (rest5 0 (not_of (by kernel_rfl))).trans s0_4
  have s4_5 := (rest5 4 (not_of (by kernel_rfl))).trans s4_4
  have s6_5 := (rest5 6 (not_of (by kernel_rfl))).trans s6_4
  have s7_5 := (rest5 7 (not_of (by kernel_rfl))).trans s7_4
  have s10_5 := (rest5 10 (not_of (by kernel_rfl))).trans s10_4
  have s13_5 : a5.tmps.getD 13 undef = .int .u64 (doI op 64 v u) := R5 7 _ rfl
  have s14_5 : a5.tmps.getD 14 undef = .int .i64 (doE op 64) := R5 8 _ rfl
  clear R5 rest5 hS hfl hPs hAs
  clear s0_4 s3_4 s4_4 s6_4 s7_4 s10_4 s70_4 b_g1_4 b_g2_4 b_g3_4 d4 z4
  refine wp_seq ?_
  refine wp_seq ?_
  cases fk3 : (doE op 64) == 0
  case false =>
   have Ffk3 := Lib.hid fk3; clear fk3
   refine wp_regx (SX W w5.heap.size [⟨g1, 60, (cR a b c d), none, #[]⟩, ⟨g2, 60, (cR p q r t), none, #[]⟩, ⟨g3, 60, (cR ((Rg.nar ⟨⟨a, b⟩, ⟨c, d⟩⟩).u.lo) ((Rg.nar ⟨⟨a, b⟩, ⟨c, d⟩⟩).u.hi) ((Rg.nar ⟨⟨a, b⟩, ⟨c, d⟩⟩).s.lo) ((Rg.nar ⟨⟨a, b⟩, ⟨c, d⟩⟩).s.hi)), none, #[]⟩] []) (TabX [fun vx => vx = .int .i64 (doE op 64), fun vx => vx = .bool false, fun vx => vx = .bool false, fun vx => vx = undef, fun vx => vx = undef, fun vx => vx = undef, fun vx => vx = undef, fun vx => vx = undef, fun vx => vx = undef, fun vx => vx = undef, fun vx => vx = .bool false]) (by kernel_rfl) (back_of (by kernel_rfl)) (dst_of (by kernel_rfl)) (in_ofz (by kernel_rfl) z5) (fun fl w1 hfl hw => SX.start' hw B5 hfl rfl ⟨b_g1_5, b_g2_5, b_g3_5, trivial⟩) ?h10 ?_
   case h10 =>
     intro ix ox ax wx fl ho hS hfi clo hsz hrest hdone hund
     have t0 := (hrest 0 (not_of (by kernel_rfl))).trans s0_5
     have t6 := (hrest 6 (not_of (by kernel_rfl))).trans s6_5
     have t7 := (hrest 7 (not_of (by kernel_rfl))).trans s7_5
     have t13 := (hrest 13 (not_of (by kernel_rfl))).trans s13_5
     have t14 := (hrest 14 (not_of (by kernel_rfl))).trans s14_5
     have hs : ax.tmps.size = 108 := hsz.trans z5
     have hi : ix < 11 := (Array.getElem?_eq_some_iff.1 ho).1
     clear hrest hsz hund
     obtain rfl | rfl | rfl | rfl | rfl | rfl | rfl | rfl | rfl | rfl | rfl : ix = 0 ∨ ix = 1 ∨ ix = 2 ∨ ix = 3 ∨ ix = 4 ∨ ix = 5 ∨ ix = 6 ∨ ix = 7 ∨ ix = 8 ∨ ix = 9 ∨ ix = 10 := by omega
     all_goals obtain rfl := Option.some.inj (show some _ = some ox from ho)
     ·
      exact wpOp_val (v := .int .i64 (doE op 64)) (w' := wx) rfl rfl (by simp [execOp, Act.eval, t14]) ⟨_, rfl, tab_put rfl hs rfl rfl, hS.same 0 rfl⟩
     ·
      have s78 : ax.tmps.getD 78 undef = .int .i64 (doE op 64) := (hdone 0 _ rfl rfl).2 _ rfl
      exact wpOp_val (v := .bool ((doE op 64) == 0)) (w' := wx) rfl rfl (by (simp [execOp, Act.eval, s78, go_sem]; try (simp only [IntKind.wrap_i64, wrap64]))) ⟨_, rfl, tab_put rfl hs rfl (congrArg Value.bool Ffk3.out), hS.same 1 rfl⟩
     ·
      have s79 : ax.tmps.getD 79 undef = .bool false := (hdone 0 _ rfl rfl).2 _ rfl
      exact wpOp_val (v := .bool false) (w' := wx) rfl rfl (by simp [execOp, Act.eval, s79]) ⟨_, rfl, tab_put rfl hs rfl rfl, hS.same 2 rfl⟩
     ·
      have hg : ax.tmps.getD 80 undef = .bool false := (hdone 0 _ rfl rfl).2 _ rfl
      exact wpOp_no rfl (wanted_no 2 80 false hg (by rw [hs]; omega) rfl rfl rfl rfl) ⟨_, rfl, tab_put rfl hs rfl rfl, hS.same 3 rfl⟩
     ·
      have hg : ax.tmps.getD 80 undef = .bool false := (hdone 0 _ rfl rfl).2 _ rfl
      exact wpOp_no rfl (wanted_no 2 80 false hg (by rw [hs]; omega) rfl rfl rfl rfl) ⟨_, rfl, tab_put rfl hs rfl rfl, hS.same 4 rfl⟩
     ·
      have hg : ax.tmps.getD 80 undef = .bool false := (hdone 0 _ rfl rfl).2 _ rfl
      exact wpOp_no rfl (wanted_no 2 80 false hg (by rw [hs]; omega) rfl rfl rfl rfl) ⟨_, rfl, tab_put rfl hs rfl rfl, hS.same 5 rfl⟩
     ·
      have hg : ax.tmps.getD 80 undef = .bool false := (hdone 3 _ rfl rfl).2 _ rfl
      exact wpOp_no rfl (wanted_no 2 80 false hg (by rw [hs]; omega) rfl rfl rfl rfl) ⟨_, rfl, tab_put rfl hs rfl rfl, hS.same 6 rfl⟩
     ·
      have hg : ax.tmps.getD 80 undef = .bool false := (hdone 0 _ rfl rfl).2 _ rfl
      exact wpOp_no rfl (wanted_no 2 80 false hg (by rw [hs]; omega) rfl rfl rfl rfl) ⟨_, rfl, tab_put rfl hs rfl rfl, hS.same 7 rfl⟩
     ·
      have hg : ax.tmps.getD 80 undef = .bool false := (hdone 3 _ rfl rfl).2 _ rfl
      exact wpOp_no rfl (wanted_no 2 80 false hg (by rw [hs]; omega) rfl rfl rfl rfl) ⟨_, rfl, tab_put rfl hs rfl rfl, hS.same 8 rfl⟩
     ·
      have hg : ax.tmps.getD 80 undef = .bool false := (hdone 1 _ rfl rfl).2 _ rfl
      exact wpOp_no rfl (wanted_no 2 80 false hg (by rw [hs]; omega) rfl rfl rfl rfl) ⟨_, rfl, tab_put rfl hs rfl rfl, hS.same 9 rfl⟩
     ·
      have s80 : ax.tmps.getD 80 undef = .bool false := (hdone 0 _ rfl rfl).2 _ rfl
      have s87 : ax.tmps.getD 87 undef = undef := (hdone 1 _ rfl rfl).2 _ rfl
      exact wpOp_val (v := .bool false) (w' := wx) rfl rfl (by simp [execOp, Act.eval, s80, s87, go_sem]) ⟨_, rfl, tab_put rfl hs rfl rfl, hS.same 10 rfl⟩
   intro a6 w6 fl d6 z6 rest6 R6 hfl hS
   obtain ⟨B6, n6, hBs, hAs, hPs⟩ := hS.finish hfl rfl
   replace d6 := d6.trans d5
   replace z6 := z6.trans z5
   obtain ⟨⟨-, b_g1_6⟩, ⟨-, b_g2_6⟩, ⟨-, b_g3_6⟩, -⟩ := hBs
   have s4_6 := (rest6 4 (not_of (by kernel_rfl))).trans s4_5
   have s6_6 := (rest6 6 (not_of (by kernel_rfl))).trans s6_5
   have s7_6 := (rest6 7 (not_of (by kernel_rfl))).trans s7_5
   have s10_6 := (rest6 10 (not_of (by kernel_rfl))).trans s10_5
   have s88_6 : a6.tmps.getD 88 undef = .bool false := R6 10 _ rfl
   clear R6 rest6 hS hfl hPs hAs
   clear s0_5 s4_5 s6_5 s7_5 s10_5 s13_5 s14_5 b_g1_5 b_g2_5 b_g3_5 d5 z5
   refine wp_cond_false (show a6.tmps.getD 88 undef = .bool false from s88_6) ?_
   refine wp_skip ?_
   refine wp_seq ?_
   cases fk4 : Rg.meetB ⟨⟨a, b⟩, ⟨c, d⟩⟩ ⟨⟨p, q⟩, ⟨r, t⟩⟩
   case false =>
    have Ffk4 := Lib.hid fk4; clear fk4
    refine wp_regx (SX W w6.heap.size [⟨g1, 60, (cR a b c d), none, #[]⟩, ⟨g2, 60, (cR p q r t), none, #[]⟩, ⟨g3, 60, (cR ((Rg.nar ⟨⟨a, b⟩, ⟨c, d⟩⟩).u.lo) ((Rg.nar ⟨⟨a, b⟩, ⟨c, d⟩⟩).u.hi) ((Rg.nar ⟨⟨a, b⟩, ⟨c, d⟩⟩).s.lo) ((Rg.nar ⟨⟨a, b⟩, ⟨c, d⟩⟩).s.hi)), none, #[]⟩] [⟨6, 15, 60, (cR 0 0 0 0), some 7, (cR ((Rg.meetR ⟨⟨a, b⟩, ⟨c, d⟩⟩ ⟨⟨p, q⟩, ⟨r, t⟩⟩).u.lo) ((Rg.meetR ⟨⟨a, b⟩, ⟨c, d⟩⟩ ⟨⟨p, q⟩, ⟨r, t⟩⟩).u.hi) ((Rg.meetR ⟨⟨a, b⟩, ⟨c, d⟩⟩ ⟨⟨p, q⟩, ⟨r, t⟩⟩).s.lo) ((Rg.meetR ⟨⟨a, b⟩, ⟨c, d⟩⟩ ⟨⟨p, q⟩, ⟨r, t⟩⟩).s.hi))⟩]) (TabX [fun vx => vx = .agg #[.int .u64 a, .int .u64 b, .int .i64 c, .int .i64 d], fun vx => vx = .agg #[.int .u64 p, .int .u64 q, .int .i64 r, .int .i64 t], fun vx => vx = .tuple #[.agg #[.int .u64 ((Rg.meetR ⟨⟨a, b⟩, ⟨c, d⟩⟩ ⟨⟨p, q⟩, ⟨r, t⟩⟩).u.lo), .int .u64 ((Rg.meetR ⟨⟨a, b⟩, ⟨c, d⟩⟩ ⟨⟨p, q⟩, ⟨r, t⟩⟩).u.hi), .int .i64 ((Rg.meetR ⟨⟨a, b⟩, ⟨c, d⟩⟩ ⟨⟨p, q⟩, ⟨r, t⟩⟩).s.lo), .int .i64 ((Rg.meetR ⟨⟨a, b⟩, ⟨c, d⟩⟩ ⟨⟨p, q⟩, ⟨r, t⟩⟩).s.hi)], .bool (Rg.meetB ⟨⟨a, b⟩, ⟨c, d⟩⟩ ⟨⟨p, q⟩, ⟨r, t⟩⟩)], fun vx => vx = .tuple #[.agg #[.int .u64 ((Rg.meetR ⟨⟨a, b⟩, ⟨c, d⟩⟩ ⟨⟨p, q⟩, ⟨r, t⟩⟩).u.lo), .int .u64 ((Rg.meetR ⟨⟨a, b⟩, ⟨c, d⟩⟩ ⟨⟨p, q⟩, ⟨r, t⟩⟩).u.hi), .int .i64 ((Rg.meetR ⟨⟨a, b⟩, ⟨c, d⟩⟩ ⟨⟨p, q⟩, ⟨r, t⟩⟩).s.lo), .int .i64 ((Rg.meetR ⟨⟨a, b⟩, ⟨c, d⟩⟩ ⟨⟨p, q⟩, ⟨r, t⟩⟩).s.hi)], .bool (Rg.meetB ⟨⟨a, b⟩, ⟨c, d⟩⟩ ⟨⟨p, q⟩, ⟨r, t⟩⟩)], fun vx => vx = .agg #[.int .u64 ((Rg.meetR ⟨⟨a, b⟩, ⟨c, d⟩⟩ ⟨⟨p, q⟩, ⟨r, t⟩⟩).u.lo), .int .u64 ((Rg.meetR ⟨⟨a, b⟩, ⟨c, d⟩⟩ ⟨⟨p, q⟩, ⟨r, t⟩⟩).u.hi), .int .i64 ((Rg.meetR ⟨⟨a, b⟩, ⟨c, d⟩⟩ ⟨⟨p, q⟩, ⟨r, t⟩⟩).s.lo), .int .i64 ((Rg.meetR ⟨⟨a, b⟩, ⟨c, d⟩⟩ ⟨⟨p, q⟩, ⟨r, t⟩⟩).s.hi)], fun vx => vx = .bool false, fun _ => True, fun _ => True, fun vx => vx = .bool false]) (by kernel_rfl) (back_of (by kernel_rfl)) (dst_of (by kernel_rfl)) (in_ofz (by kernel_rfl) z6) (fun fl w1 hfl hw => SX.start' hw B6 hfl rfl ⟨b_g1_6, b_g2_6, b_g3_6, trivial⟩) ?h11 ?_
    case h11 =>
      intro ix ox ax wx fl ho hS hfi clo hsz hrest hdone hund
      have t6 := (hrest 6 (not_of (by kernel_rfl))).trans s6_6
      have t7 := (hrest 7 (not_of (by kernel_rfl))).trans s7_6
      have hs : ax.tmps.size = 108 := hsz.trans z6
      have hi : ix < 9 := (Array.getElem?_eq_some_iff.1 ho).1
      clear hrest hsz hund
      obtain rfl | rfl | rfl | rfl | rfl | rfl | rfl | rfl | rfl : ix = 0 ∨ ix = 1 ∨ ix = 2 ∨ ix = 3 ∨ ix = 4 ∨ ix = 5 ∨ ix = 6 ∨ ix = 7 ∨ ix = 8 := by omega
      all_goals obtain rfl := Option.some.inj (show some _ = some ox from ho)
      ·
       have hr := hS.rowNi 0 rfl
       exact wpOp_val (v := .agg #[.int .u64 a, .int .u64 b, .int .i64 c, .int .i64 d]) (w' := wx) rfl rfl (exec_loadR 60 _ rfl g1 0 (show ax.eval (.tmp 6) = .pointer (some ⟨g1, 0, none⟩) from t6) hr [.int .u64 a, .int .u64 b, .int .i64 c, .int .i64 d] rfl _ Try.underlying60 rfl (by kernel_rfl)) ⟨_, rfl, tab_put rfl hs rfl rfl, hS.same 0 rfl⟩
      ·
       have hr := hS.rowNi 1 rfl
       exact wpOp_val (v := .agg #[.int .u64 p, .int .u64 q, .int .i64 r, .int .i64 t]) (w' := wx) rfl rfl (exec_loadR 60 _ rfl g2 0 (show ax.eval (.tmp 7) = .pointer (some ⟨g2, 0, none⟩) from t7) hr [.int .u64 p, .int .u64 q, .int .i64 r, .int .i64 t] rfl _ Try.underlying60 rfl (by kernel_rfl)) ⟨_, rfl, tab_put rfl hs rfl rfl, hS.same 1 rfl⟩
      ·
       have s90 : ax.tmps.getD 90 undef = .agg #[.int .u64 a, .int .u64 b, .int .i64 c, .int .i64 d] := (hdone 0 _ rfl rfl).2 _ rfl
       have s91 : ax.tmps.getD 91 undef = .agg #[.int .u64 p, .int .u64 q, .int .i64 r, .int .i64 t] := (hdone 1 _ rfl rfl).2 _ rfl
       refine wpOp_call (args := #[.agg #[.int .u64 a, .int .u64 b, .int .i64 c, .int .i64 d], .agg #[.int .u64 p, .int .u64 q, .int .i64 r, .int .i64 t]]) rfl rfl (exec_call rfl rfl rfl (args2 (show ax.eval (.tmp 90) = .agg #[.int .u64 a, .int .u64 b, .int .i64 c, .int .i64 d] from s90) (show ax.eval (.tmp 91) = .agg #[.int .u64 p, .int .u64 q, .int .i64 r, .int .i64 t] from s91)) Try.func22 (by decide +kernel) rfl) ?_
       · refine (meet_n a b c d p q r t wx HA.out HB.out).mono ?_
         rintro e w' ⟨rfl, b9⟩
         exact ⟨_, rfl, _, rfl, tab_put rfl hs rfl rfl, hS.quiet 2 rfl b9⟩
      ·
       have s92 : ax.tmps.getD 92 undef = .tuple #[.agg #[.int .u64 ((Rg.meetR ⟨⟨a, b⟩, ⟨c, d⟩⟩ ⟨⟨p, q⟩, ⟨r, t⟩⟩).u.lo), .int .u64 ((Rg.meetR ⟨⟨a, b⟩, ⟨c, d⟩⟩ ⟨⟨p, q⟩, ⟨r, t⟩⟩).u.hi), .int .i64 ((Rg.meetR ⟨⟨a, b⟩, ⟨c, d⟩⟩ ⟨⟨p, q⟩, ⟨r, t⟩⟩).s.lo), .int .i64 ((Rg.meetR ⟨⟨a, b⟩, ⟨c, d⟩⟩ ⟨⟨p, q⟩, ⟨r, t⟩⟩).s.hi)], .bool (Rg.meetB ⟨⟨a, b⟩, ⟨c, d⟩⟩ ⟨⟨p, q⟩, ⟨r, t⟩⟩)] := (hdone 0 _ rfl rfl).2 _ rfl
       exact wpOp_val (v := .tuple #[.agg #[.int .u64 ((Rg.meetR ⟨⟨a, b⟩, ⟨c, d⟩⟩ ⟨⟨p, q⟩, ⟨r, t⟩⟩).u.lo), .int .u64 ((Rg.meetR ⟨⟨a, b⟩, ⟨c, d⟩⟩ ⟨⟨p, q⟩, ⟨r, t⟩⟩).u.hi), .int .i64 ((Rg.meetR ⟨⟨a, b⟩, ⟨c, d⟩⟩ ⟨⟨p, q⟩, ⟨r, t⟩⟩).s.lo), .int .i64 ((Rg.meetR ⟨⟨a, b⟩, ⟨c, d⟩⟩ ⟨⟨p, q⟩, ⟨r, t⟩⟩).s.hi)], .bool (Rg.meetB ⟨⟨a, b⟩, ⟨c, d⟩⟩ ⟨⟨p, q⟩, ⟨r, t⟩⟩)]) (w' := wx) rfl rfl (by (revert s92; generalize (.tuple #[.agg #[.int .u64 ((Rg.meetR ⟨⟨a, b⟩, ⟨c, d⟩⟩ ⟨⟨p, q⟩, ⟨r, t⟩⟩).u.lo), .int .u64 ((Rg.meetR ⟨⟨a, b⟩, ⟨c, d⟩⟩ ⟨⟨p, q⟩, ⟨r, t⟩⟩).u.hi), .int .i64 ((Rg.meetR ⟨⟨a, b⟩, ⟨c, d⟩⟩ ⟨⟨p, q⟩, ⟨r, t⟩⟩).s.lo), .int .i64 ((Rg.meetR ⟨⟨a, b⟩, ⟨c, d⟩⟩ ⟨⟨p, q⟩, ⟨r, t⟩⟩).s.hi)], .bool (Rg.meetB ⟨⟨a, b⟩, ⟨c, d⟩⟩ ⟨⟨p, q⟩, ⟨r, t⟩⟩)] : Value) = y0; intro s92); simp [execOp, Act.eval, s92]) ⟨_, rfl, tab_put rfl hs rfl rfl, hS.same 3 rfl⟩
      ·
       have s89 : ax.tmps.getD 89 undef = .tuple #[.agg #[.int .u64 ((Rg.meetR ⟨⟨a, b⟩, ⟨c, d⟩⟩ ⟨⟨p, q⟩, ⟨r, t⟩⟩).u.lo), .int .u64 ((Rg.meetR ⟨⟨a, b⟩, ⟨c, d⟩⟩ ⟨⟨p, q⟩, ⟨r, t⟩⟩).u.hi), .int .i64 ((Rg.meetR ⟨⟨a, b⟩, ⟨c, d⟩⟩ ⟨⟨p, q⟩, ⟨r, t⟩⟩).s.lo), .int .i64 ((Rg.meetR ⟨⟨a, b⟩, ⟨c, d⟩⟩ ⟨⟨p, q⟩, ⟨r, t⟩⟩).s.hi)], .bool (Rg.meetB ⟨⟨a, b⟩, ⟨c, d⟩⟩ ⟨⟨p, q⟩, ⟨r, t⟩⟩)] := (hdone 0 _ rfl rfl).2 _ rfl
       exact wpOp_val (v := .agg #[.int .u64 ((Rg.meetR ⟨⟨a, b⟩, ⟨c, d⟩⟩ ⟨⟨p, q⟩, ⟨r, t⟩⟩).u.lo), .int .u64 ((Rg.meetR ⟨⟨a, b⟩, ⟨c, d⟩⟩ ⟨⟨p, q⟩, ⟨r, t⟩⟩).u.hi), .int .i64 ((Rg.meetR ⟨⟨a, b⟩, ⟨c, d⟩⟩ ⟨⟨p, q⟩, ⟨r, t⟩⟩).s.lo), .int .i64 ((Rg.meetR ⟨⟨a, b⟩, ⟨c, d⟩⟩ ⟨⟨p, q⟩, ⟨r, t⟩⟩).s.hi)]) (w' := wx) rfl rfl (by simp [execOp, Act.eval, s89, go_sem]) ⟨_, rfl, tab_put rfl hs rfl rfl, hS.same 4 rfl⟩
      ·
       have s89 : ax.tmps.getD 89 undef = .tuple #[.agg #[.int .u64 ((Rg.meetR ⟨⟨a, b⟩, ⟨c, d⟩⟩ ⟨⟨p, q⟩, ⟨r, t⟩⟩).u.lo), .int .u64 ((Rg.meetR ⟨⟨a, b⟩, ⟨c, d⟩⟩ ⟨⟨p, q⟩, ⟨r, t⟩⟩).u.hi), .int .i64 ((Rg.meetR ⟨⟨a, b⟩, ⟨c, d⟩⟩ ⟨⟨p, q⟩, ⟨r, t⟩⟩).s.lo), .int .i64 ((Rg.meetR ⟨⟨a, b⟩, ⟨c, d⟩⟩ ⟨⟨p, q⟩, ⟨r, t⟩⟩).s.hi)], .bool (Rg.meetB ⟨⟨a, b⟩, ⟨c, d⟩⟩ ⟨⟨p, q⟩, ⟨r, t⟩⟩)] := (hdone 0 _ rfl rfl).2 _ rfl
       exact wpOp_val (v := .bool (Rg.meetB ⟨⟨a, b⟩, ⟨c, d⟩⟩ ⟨⟨p, q⟩, ⟨r, t⟩⟩)) (w' := wx) rfl rfl (by simp [execOp, Act.eval, s89, go_sem]) ⟨_, rfl, tab_put rfl hs rfl (congrArg Value.bool Ffk4.out), hS.same 5 rfl⟩
      ·
       refine wpOp_val (v := .pointer (some ⟨wx.heap.size, 0, none⟩)) (w' := wx.alloc (.cells #[.int .u64 0, .int .u64 0, .int .i64 0, .int .i64 0] 60)) rfl rfl ?_ ⟨_, rfl, trivial, hS.alloc 6 15 60 #[.int .u64 0, .int .u64 0, .int .i64 0, .int .i64 0] [] [] (some 7) #[.int .u64 ((Rg.meetR ⟨⟨a, b⟩, ⟨c, d⟩⟩ ⟨⟨p, q⟩, ⟨r, t⟩⟩).u.lo), .int .u64 ((Rg.meetR ⟨⟨a, b⟩, ⟨c, d⟩⟩ ⟨⟨p, q⟩, ⟨r, t⟩⟩).u.hi), .int .i64 ((Rg.meetR ⟨⟨a, b⟩, ⟨c, d⟩⟩ ⟨⟨p, q⟩, ⟨r, t⟩⟩).s.lo), .int .i64 ((Rg.meetR ⟨⟨a, b⟩, ⟨c, d⟩⟩ ⟨⟨p, q⟩, ⟨r, t⟩⟩).s.hi)] rfl rfl rfl (by rw [hs]; omega) (not_yet clo hfi (by kernel_rfl))⟩
       · simp [execOp, Act.eval, go_sem]
      ·
       have hd15 := (hdone 0 _ rfl rfl).1
       obtain ⟨g4, s15, n15, r15⟩ := SX.rowA hS [] [] 6 15 60 _ _ 7 rfl hd15 hfi
       have s15 : ax.tmps.getD 15 undef = .pointer (some ⟨g4, 0, none⟩) := s15
       have s93 : ax.tmps.getD 93 undef = .agg #[.int .u64 ((Rg.meetR ⟨⟨a, b⟩, ⟨c, d⟩⟩ ⟨⟨p, q⟩, ⟨r, t⟩⟩).u.lo), .int .u64 ((Rg.meetR ⟨⟨a, b⟩, ⟨c, d⟩⟩ ⟨⟨p, q⟩, ⟨r, t⟩⟩).u.hi), .int .i64 ((Rg.meetR ⟨⟨a, b⟩, ⟨c, d⟩⟩ ⟨⟨p, q⟩, ⟨r, t⟩⟩).s.lo), .int .i64 ((Rg.meetR ⟨⟨a, b⟩, ⟨c, d⟩⟩ ⟨⟨p, q⟩, ⟨r, t⟩⟩).s.hi)] := (hdone 1 _ rfl rfl).2 _ rfl
       have hr : wx.heap[g4]? = some (.cells #[.int .u64 0, .int .u64 0, .int .i64 0, .int .i64 0] 60 (0, 0)) := r15
       exact wpOp_skp (w' := wx.setRow g4 #[.int .u64 ((Rg.meetR ⟨⟨a, b⟩, ⟨c, d⟩⟩ ⟨⟨p, q⟩, ⟨r, t⟩⟩).u.lo), .int .u64 ((Rg.meetR ⟨⟨a, b⟩, ⟨c, d⟩⟩ ⟨⟨p, q⟩, ⟨r, t⟩⟩).u.hi), .int .i64 ((Rg.meetR ⟨⟨a, b⟩, ⟨c, d⟩⟩ ⟨⟨p, q⟩, ⟨r, t⟩⟩).s.lo), .int .i64 ((Rg.meetR ⟨⟨a, b⟩, ⟨c, d⟩⟩ ⟨⟨p, q⟩, ⟨r, t⟩⟩).s.hi)]) rfl rfl (exec_storeR 60 _ _ rfl g4 #[.int .u64 ((Rg.meetR ⟨⟨a, b⟩, ⟨c, d⟩⟩ ⟨⟨p, q⟩, ⟨r, t⟩⟩).u.lo), .int .u64 ((Rg.meetR ⟨⟨a, b⟩, ⟨c, d⟩⟩ ⟨⟨p, q⟩, ⟨r, t⟩⟩).u.hi), .int .i64 ((Rg.meetR ⟨⟨a, b⟩, ⟨c, d⟩⟩ ⟨⟨p, q⟩, ⟨r, t⟩⟩).s.lo), .int .i64 ((Rg.meetR ⟨⟨a, b⟩, ⟨c, d⟩⟩ ⟨⟨p, q⟩, ⟨r, t⟩⟩).s.hi)] (show ax.eval (.tmp 15) = .pointer (some ⟨g4, 0, none⟩) from s15) (show ax.eval (.tmp 93) = .agg #[.int .u64 ((Rg.meetR ⟨⟨a, b⟩, ⟨c, d⟩⟩ ⟨⟨p, q⟩, ⟨r, t⟩⟩).u.lo), .int .u64 ((Rg.meetR ⟨⟨a, b⟩, ⟨c, d⟩⟩ ⟨⟨p, q⟩, ⟨r, t⟩⟩).u.hi), .int .i64 ((Rg.meetR ⟨⟨a, b⟩, ⟨c, d⟩⟩ ⟨⟨p, q⟩, ⟨r, t⟩⟩).s.lo), .int .i64 ((Rg.meetR ⟨⟨a, b⟩, ⟨c, d⟩⟩ ⟨⟨p, q⟩, ⟨r, t⟩⟩).s.hi)] from s93) hr (by kernel_rfl) rfl (by simp [Value.oneCell'])) ⟨undef, rfl, trivial, hS.storeA 7 6 15 60 #[.int .u64 0, .int .u64 0, .int .i64 0, .int .i64 0] #[.int .u64 ((Rg.meetR ⟨⟨a, b⟩, ⟨c, d⟩⟩ ⟨⟨p, q⟩, ⟨r, t⟩⟩).u.lo), .int .u64 ((Rg.meetR ⟨⟨a, b⟩, ⟨c, d⟩⟩ ⟨⟨p, q⟩, ⟨r, t⟩⟩).u.hi), .int .i64 ((Rg.meetR ⟨⟨a, b⟩, ⟨c, d⟩⟩ ⟨⟨p, q⟩, ⟨r, t⟩⟩).s.lo), .int .i64 ((Rg.meetR ⟨⟨a, b⟩, ⟨c, d⟩⟩ ⟨⟨p, q⟩, ⟨r, t⟩⟩).s.hi)] [] [] rfl B6.size hd15 g4 s15 (by decide) rfl (stored_setRow wx g4 _ _ _ hr)⟩
      ·
       have s94 : ax.tmps.getD 94 undef = .bool false := (hdone 0 _ rfl rfl).2 _ rfl
       exact wpOp_val (v := .bool false) (w' := wx) rfl rfl (by simp [execOp, Act.eval, s94]) ⟨_, rfl, tab_put rfl hs rfl rfl, hS.same 8 rfl⟩
    intro a7 w7 fl d7 z7 rest7 R7 hfl hS
    obtain ⟨B7, n7, hBs, hAs, hPs⟩ := hS.finish hfl rfl
    replace d7 := d7.trans d6
    replace z7 := z7.trans z6
    obtain ⟨⟨-, b_g1_7⟩, ⟨-, b_g2_7⟩, ⟨-, b_g3_7⟩, -⟩ := hBs
    obtain ⟨⟨g4, u_g4, q_g4, b_g4_7⟩, -⟩ := hAs
    replace u_g4 : a7.tmps.getD 15 undef = .pointer (some ⟨g4, 0, none⟩) := u_g4
    have m_g4 : w6.heap.size ≤ g4 := q_g4
    replace q_g4 : W.heap.size ≤ g4 := Nat.le_trans B6.size q_g4
    have s4_7 := (rest7 4 (not_of (by kernel_rfl))).trans s4_6
    have s6_7 := (rest7 6 (not_of (by kernel_rfl))).trans s6_6
    have s10_7 := (rest7 10 (not_of (by kernel_rfl))).trans s10_6
    have s16_7 : a7.tmps.getD 16 undef = .bool false := R7 8 _ rfl
    clear R7 rest7 hS hfl hPs
    clear s4_6 s6_6 s7_6 s10_6 s88_6 b_g1_6 b_g2_6 b_g3_6 d6 z6
    refine wp_seq ?_
    refine wp_regx (SX W w7.heap.size [⟨g1, 60, (cR a b c d), none, #[]⟩, ⟨g2, 60, (cR p q r t), none, #[]⟩, ⟨g3, 60, (cR ((Rg.nar ⟨⟨a, b⟩, ⟨c, d⟩⟩).u.lo) ((Rg.nar ⟨⟨a, b⟩, ⟨c, d⟩⟩).u.hi) ((Rg.nar ⟨⟨a, b⟩, ⟨c, d⟩⟩).s.lo) ((Rg.nar ⟨⟨a, b⟩, ⟨c, d⟩⟩).s.hi)), none, #[]⟩, ⟨g4, 60, (cR ((Rg.meetR ⟨⟨a, b⟩, ⟨c, d⟩⟩ ⟨⟨p, q⟩, ⟨r, t⟩⟩).u.lo) ((Rg.meetR ⟨⟨a, b⟩, ⟨c, d⟩⟩ ⟨⟨p, q⟩, ⟨r, t⟩⟩).u.hi) ((Rg.meetR ⟨⟨a, b⟩, ⟨c, d⟩⟩ ⟨⟨p, q⟩, ⟨r, t⟩⟩).s.lo) ((Rg.meetR ⟨⟨a, b⟩, ⟨c, d⟩⟩ ⟨⟨p, q⟩, ⟨r, t⟩⟩).s.hi)), none, #[]⟩] []) (TabX [fun vx => vx = .agg #[.int .u64 a, .int .u64 b, .int .i64 c, .int .i64 d], fun vx => vx = .int .u64 u, fun vx => vx = .bool false, fun vx => vx = .bool false, fun vx => vx = .bool false, fun vx => vx = undef, fun vx => vx = undef, fun vx => vx = undef, fun vx => vx = .bool false, fun vx => vx = .bool true, fun vx => vx = .bool true, fun vx => vx = .bool true, fun vx => vx = .bool true, fun vx => vx = .bool true]) (by kernel_rfl) (back_of (by kernel_rfl)) (dst_of (by kernel_rfl)) (in_ofz (by kernel_rfl) z7) (fun fl w1 hfl hw => SX.start' hw B7 hfl rfl ⟨b_g1_7, b_g2_7, b_g3_7, b_g4_7, trivial⟩) ?h12 ?_
    case h12 =>
      intro ix ox ax wx fl ho hS hfi clo hsz hrest hdone hund
      have t4 := (hrest 4 (not_of (by kernel_rfl))).trans s4_7
      have t6 := (hrest 6 (not_of (by kernel_rfl))).trans s6_7
      have t15 := (hrest 15 (not_of (by kernel_rfl))).trans u_g4
      have t16 := (hrest 16 (not_of (by kernel_rfl))).trans s16_7
      have hs : ax.tmps.size = 108 := hsz.trans z7
      have hi : ix < 14 := (Array.getElem?_eq_some_iff.1 ho).1
      clear hrest hsz hund
      obtain rfl | rfl | rfl | rfl | rfl | rfl | rfl | rfl | rfl | rfl | rfl | rfl | rfl | rfl : ix = 0 ∨ ix = 1 ∨ ix = 2 ∨ ix = 3 ∨ ix = 4 ∨ ix = 5 ∨ ix = 6 ∨ ix = 7 ∨ ix = 8 ∨ ix = 9 ∨ ix = 10 ∨ ix = 11 ∨ ix = 12 ∨ ix = 13 := by omega
      all_goals obtain rfl := Option.some.inj (show some _ = some ox from ho)
      ·
       have hr := hS.rowNi 0 rfl
       exact wpOp_val (v := .agg #[.int .u64 a, .int .u64 b, .int .i64 c, .int .i64 d]) (w' := wx) rfl rfl (exec_loadR 60 _ rfl g1 0 (show ax.eval (.tmp 6) = .pointer (some ⟨g1, 0, none⟩) from t6) hr [.int .u64 a, .int .u64 b, .int .i64 c, .int .i64 d] rfl _ Try.underlying60 rfl (by kernel_rfl)) ⟨_, rfl, tab_put rfl hs rfl rfl, hS.same 0 rfl⟩
      ·
       exact wpOp_val (v := .int .u64 u) (w' := wx) rfl rfl (by simp [execOp, Act.eval, t4]) ⟨_, rfl, tab_put rfl hs rfl rfl, hS.same 1 rfl⟩
      ·
       have s95 : ax.tmps.getD 95 undef = .agg #[.int .u64 a, .int .u64 b, .int .i64 c, .int .i64 d] := (hdone 0 _ rfl rfl).2 _ rfl
       have s96 : ax.tmps.getD 96 undef = .int .u64 u := (hdone 1 _ rfl rfl).2 _ rfl
       refine wpOp_call (args := #[.agg #[.int .u64 a, .int .u64 b, .int .i64 c, .int .i64 d], .int .u64 u]) rfl rfl (exec_call rfl rfl rfl (args2 (show ax.eval (.tmp 95) = .agg #[.int .u64 a, .int .u64 b, .int .i64 c, .int .i64 d] from s95) (show ax.eval (.tmp 96) = .int .u64 u from s96)) Try.func36 (by decide +kernel) rfl) ?_
       · refine (has_n a b c d u wx).mono ?_
         rintro e w' ⟨rfl, b9⟩
         exact ⟨_, rfl, _, rfl, tab_put rfl hs rfl (congrArg Value.bool (KM0.out Ffk1.out Ffk2.out Ffk4.out)), hS.quiet 2 rfl b9⟩
      ·
       exact wpOp_val (v := .bool false) (w' := wx) rfl rfl (by simp [execOp, Act.eval, t16]) ⟨_, rfl, tab_put rfl hs rfl rfl, hS.same 3 rfl⟩
      ·
       have s98 : ax.tmps.getD 98 undef = .bool false := (hdone 0 _ rfl rfl).2 _ rfl
       exact wpOp_val (v := .bool false) (w' := wx) rfl rfl (by simp [execOp, Act.eval, s98]) ⟨_, rfl, tab_put rfl hs rfl rfl, hS.same 4 rfl⟩
      ·
       have hg : ax.tmps.getD 99 undef = .bool false := (hdone 0 _ rfl rfl).2 _ rfl
       exact wpOp_no rfl (wanted_no 4 99 false hg (by rw [hs]; omega) rfl rfl rfl rfl) ⟨_, rfl, tab_put rfl hs rfl rfl, hS.same 5 rfl⟩
      ·
       have hg : ax.tmps.getD 99 undef = .bool false := (hdone 0 _ rfl rfl).2 _ rfl
       exact wpOp_no rfl (wanted_no 4 99 false hg (by rw [hs]; omega) rfl rfl rfl rfl) ⟨_, rfl, tab_put rfl hs rfl rfl, hS.same 6 rfl⟩
      ·
       have hg : ax.tmps.getD 99 undef = .bool false := (hdone 2 _ rfl rfl).2 _ rfl
       exact wpOp_no rfl (wanted_no 4 99 false hg (by rw [hs]; omega) rfl rfl rfl rfl) ⟨_, rfl, tab_put rfl hs rfl rfl, hS.same 7 rfl⟩
      ·
       have s99 : ax.tmps.getD 99 undef = .bool false := (hdone 0 _ rfl rfl).2 _ rfl
       have s102 : ax.tmps.getD 102 undef = undef := (hdone 1 _ rfl rfl).2 _ rfl
       exact wpOp_val (v := .bool false) (w' := wx) rfl rfl (by simp [execOp, Act.eval, s99, s102, go_sem]) ⟨_, rfl, tab_put rfl hs rfl rfl, hS.same 8 rfl⟩
      ·
       have s97 : ax.tmps.getD 97 undef = .bool false := (hdone 0 _ rfl rfl).2 _ rfl
       have s103 : ax.tmps.getD 103 undef = .bool false := (hdone 1 _ rfl rfl).2 _ rfl
       exact wpOp_val (v := .bool true) (w' := wx) rfl rfl (by (simp [execOp, Act.eval, s97, s103, go_sem]; try (simp only [IntKind.wrap_i64, wrap64]))) ⟨_, rfl, tab_put rfl hs rfl rfl, hS.same 9 rfl⟩
      ·
       have s104 : ax.tmps.getD 104 undef = .bool true := (hdone 0 _ rfl rfl).2 _ rfl
       exact wpOp_val (v := .bool true) (w' := wx) rfl rfl (by simp [execOp, Act.eval, s104]) ⟨_, rfl, tab_put rfl hs rfl rfl, hS.same 10 rfl⟩
      ·
       have hg : ax.tmps.getD 105 undef = .bool true := (hdone 0 _ rfl rfl).2 _ rfl
       refine wpOp_callw (args := #[]) rfl (wanted_yes 10 105 true hg (by rw [hs]; omega) rfl rfl rfl rfl) (exec_call rfl rfl rfl (args0 ) Try.func46 (by decide +kernel) rfl) ?_
       · refine (wakes_n wx).mono ?_
         rintro e w' ⟨rfl, b9⟩
         exact ⟨_, rfl, _, rfl, tab_put rfl hs rfl rfl, hS.quiet 11 rfl b9⟩
      ·
       have s105 : ax.tmps.getD 105 undef = .bool true := (hdone 0 _ rfl rfl).2 _ rfl
       have s106 : ax.tmps.getD 106 undef = .bool true := (hdone 1 _ rfl rfl).2 _ rfl
       exact wpOp_val (v := .bool true) (w' := wx) rfl rfl (by simp [execOp, Act.eval, s105, s106, go_sem]) ⟨_, rfl, tab_put rfl hs rfl rfl, hS.same 12 rfl⟩
      ·
       have s107 : ax.tmps.getD 107 undef = .bool true := (hdone 0 _ rfl rfl).2 _ rfl
       exact wpOp_val (v := .bool true) (w' := wx) rfl rfl (by simp [execOp, Act.eval, s107]) ⟨_, rfl, tab_put rfl hs rfl rfl, hS.same 13 rfl⟩
    intro a8 w8 fl d8 z8 rest8 R8 hfl hS
    obtain ⟨B8, n8, hBs, hAs, hPs⟩ := hS.finish hfl rfl
    replace d8 := d8.trans d7
    replace z8 := z8.trans z7
    obtain ⟨⟨-, b_g1_8⟩, ⟨-, b_g2_8⟩, ⟨-, b_g3_8⟩, ⟨l_g4_8, b_g4_8⟩, -⟩ := hBs
    replace l_g4_8 : g4 < w7.heap.size := l_g4_8
    have s10_8 : a8.tmps.getD 10 undef = .bool true := R8 13 _ rfl
    clear R8 rest8 hS hfl hPs hAs
    clear u_g4 s4_7 s6_7 s10_7 s16_7 b_g1_7 b_g2_7 b_g3_7 b_g4_7 d7 z7
    refine wp_ret ?_
    try simp only [Exit.inBlock, Exit.then]
    refine bodyPost_ret (res_t (fn := Try.f8) rfl s10_8) d8 ?_
    exact ⟨rfl, B8⟩
   have Ffk4 := Lib.hid fk4; clear fk4
   refine wp_regx (SX W w6.heap.size [⟨g1, 60, (cR a b c d), none, #[]⟩, ⟨g2, 60, (cR p q r t), none, #[]⟩, ⟨g3, 60, (cR ((Rg.nar ⟨⟨a, b⟩, ⟨c, d⟩⟩).u.lo) ((Rg.nar ⟨⟨a, b⟩, ⟨c, d⟩⟩).u.hi) ((Rg.nar ⟨⟨a, b⟩, ⟨c, d⟩⟩).s.lo) ((Rg.nar ⟨⟨a, b⟩, ⟨c, d⟩⟩).s.hi)), none, #[]⟩] [⟨6, 15, 60, (cR 0 0 0 0), some 7, (cR ((Rg.meetR ⟨⟨a, b⟩, ⟨c, d⟩⟩ ⟨⟨p, q⟩, ⟨r, t⟩⟩).u.lo) ((Rg.meetR ⟨⟨a, b⟩, ⟨c, d⟩⟩ ⟨⟨p, q⟩, ⟨r, t⟩⟩).u.hi) ((Rg.meetR ⟨⟨a, b⟩, ⟨c, d⟩⟩ ⟨⟨p, q⟩, ⟨r, t⟩⟩).s.lo) ((Rg.meetR ⟨⟨a, b⟩, ⟨c, d⟩⟩ ⟨⟨p, q⟩, ⟨r, t⟩⟩).s.hi))⟩]) (TabX [fun vx => vx = .agg #[.int .u64 a, .int .u64 b, .int .i64 c, .int .i64 d], fun vx => vx = .agg #[.int .u64 p, .int .u64 q, .int .i64 r, .int .i64 t], fun vx => vx = .tuple #[.agg #[.int .u64 ((Rg.meetR ⟨⟨a, b⟩, ⟨c, d⟩⟩ ⟨⟨p, q⟩, ⟨r, t⟩⟩).u.lo), .int .u64 ((Rg.meetR ⟨⟨a, b⟩, ⟨c, d⟩⟩ ⟨⟨p, q⟩, ⟨r, t⟩⟩).u.hi), .int .i64 ((Rg.meetR ⟨⟨a, b⟩, ⟨c, d⟩⟩ ⟨⟨p, q⟩, ⟨r, t⟩⟩).s.lo), .int .i64 ((Rg.meetR ⟨⟨a, b⟩, ⟨c, d⟩⟩ ⟨⟨p, q⟩, ⟨r, t⟩⟩).s.hi)], .bool (Rg.meetB ⟨⟨a, b⟩, ⟨c, d⟩⟩ ⟨⟨p, q⟩, ⟨r, t⟩⟩)], fun vx => vx = .tuple #[.agg #[.int .u64 ((Rg.meetR ⟨⟨a, b⟩, ⟨c, d⟩⟩ ⟨⟨p, q⟩, ⟨r, t⟩⟩).u.lo), .int .u64 ((Rg.meetR ⟨⟨a, b⟩, ⟨c, d⟩⟩ ⟨⟨p, q⟩, ⟨r, t⟩⟩).u.hi), .int .i64 ((Rg.meetR ⟨⟨a, b⟩, ⟨c, d⟩⟩ ⟨⟨p, q⟩, ⟨r, t⟩⟩).s.lo), .int .i64 ((Rg.meetR ⟨⟨a, b⟩, ⟨c, d⟩⟩ ⟨⟨p, q⟩, ⟨r, t⟩⟩).s.hi)], .bool (Rg.meetB ⟨⟨a, b⟩, ⟨c, d⟩⟩ ⟨⟨p, q⟩, ⟨r, t⟩⟩)], fun vx => vx = .agg #[.int .u64 ((Rg.meetR ⟨⟨a, b⟩, ⟨c, d⟩⟩ ⟨⟨p, q⟩, ⟨r, t⟩⟩).u.lo), .int .u64 ((Rg.meetR ⟨⟨a, b⟩, ⟨c, d⟩⟩ ⟨⟨p, q⟩, ⟨r, t⟩⟩).u.hi), .int .i64 ((Rg.meetR ⟨⟨a, b⟩, ⟨c, d⟩⟩ ⟨⟨p, q⟩, ⟨r, t⟩⟩).s.lo), .int .i64 ((Rg.meetR ⟨⟨a, b⟩, ⟨c, d⟩⟩ ⟨⟨p, q⟩, ⟨r, t⟩⟩).s.hi)], fun vx => vx = .bool true, fun _ => True, fun _ => True, fun vx => vx = .bool true]) (by kernel_rfl) (back_of (by kernel_rfl)) (dst_of (by kernel_rfl)) (in_ofz (by kernel_rfl) z6) (fun fl w1 hfl hw => SX.start' hw B6 hfl rfl ⟨b_g1_6, b_g2_6, b_g3_6, trivial⟩) ?h13 ?_
   case h13 =>
     intro ix ox ax wx fl ho hS hfi clo hsz hrest hdone hund
     have t6 := (hrest 6 (not_of (by kernel_rfl))).trans s6_6
     have t7 := (hrest 7 (not_of (by kernel_rfl))).trans s7_6
     have hs : ax.tmps.size = 108 := hsz.trans z6
     have hi : ix < 9 := (Array.getElem?_eq_some_iff.1 ho).1
     clear hrest hsz hund
     obtain rfl | rfl | rfl | rfl | rfl | rfl | rfl | rfl | rfl : ix = 0 ∨ ix = 1 ∨ ix = 2 ∨ ix = 3 ∨ ix = 4 ∨ ix = 5 ∨ ix = 6 ∨ ix = 7 ∨ ix = 8 := by omega
     all_goals obtain rfl := Option.some.inj (show some _ = some ox from ho)
     ·
      have hr := hS.rowNi 0 rfl
      exact wpOp_val (v := .agg #[.int .u64 a, .int .u64 b, .int .i64 c, .int .i64 d]) (w' := wx) rfl rfl (exec_loadR 60 _ rfl g1 0 (show ax.eval (.tmp 6) = .pointer (some ⟨g1, 0, none⟩) from t6) hr [.int .u64 a, .int .u64 b, .int .i64 c, .int .i64 d] rfl _ Try.underlying60 rfl (by kernel_rfl)) ⟨_, rfl, tab_put rfl hs rfl rfl, hS.same 0 rfl⟩
     ·
      have hr := hS.rowNi 1 rfl
      exact wpOp_val (v := .agg #[.int .u64 p, .int .u64 q, .int .i64 r, .int .i64 t]) (w' := wx) rfl rfl (exec_loadR 60 _ rfl g2 0 (show ax.eval (.tmp 7) = .pointer (some ⟨g2, 0, none⟩) from t7) hr [.int .u64 p, .int .u64 q, .int .i64 r, .int .i64 t] rfl _ Try.underlying60 rfl (by kernel_rfl)) ⟨_, rfl, tab_put rfl hs rfl rfl, hS.same 1 rfl⟩
     ·
      have s90 : ax.tmps.getD 90 undef = .agg #[.int .u64 a, .int .u64 b, .int .i64 c, .int .i64 d] := (hdone 0 _ rfl rfl).2 _ rfl
      have s91 : ax.tmps.getD 91 undef = .agg #[.int .u64 p, .int .u64 q, .int .i64 r, .int .i64 t] := (hdone 1 _ rfl rfl).2 _ rfl
      refine wpOp_call (args := #[.agg #[.int .u64 a, .int .u64 b, .int .i64 c, .int .i64 d], .agg #[.int .u64 p, .int .u64 q, .int .i64 r, .int .i64 t]]) rfl rfl (exec_call rfl rfl rfl (args2 (show ax.eval (.tmp 90) = .agg #[.int .u64 a, .int .u64 b, .int .i64 c, .int .i64 d] from s90) (show ax.eval (.tmp 91) = .agg #[.int .u64 p, .int .u64 q, .int .i64 r, .int .i64 t] from s91)) Try.func22 (by decide +kernel) rfl) ?_
      · refine (meet_n a b c d p q r t wx HA.out HB.out).mono ?_
        rintro e w' ⟨rfl, b9⟩
        exact ⟨_, rfl, _, rfl, tab_put rfl hs rfl rfl, hS.quiet 2 rfl b9⟩
     ·
      have s92 : ax.tmps.getD 92 undef = .tuple #[.agg #[.int .u64 ((Rg.meetR ⟨⟨a, b⟩, ⟨c, d⟩⟩ ⟨⟨p, q⟩, ⟨r, t⟩⟩).u.lo), .int .u64 ((Rg.meetR ⟨⟨a, b⟩, ⟨c, d⟩⟩ ⟨⟨p, q⟩, ⟨r, t⟩⟩).u.hi), .int .i64 ((Rg.meetR ⟨⟨a, b⟩, ⟨c, d⟩⟩ ⟨⟨p, q⟩, ⟨r, t⟩⟩).s.lo), .int .i64 ((Rg.meetR ⟨⟨a, b⟩, ⟨c, d⟩⟩ ⟨⟨p, q⟩, ⟨r, t⟩⟩).s.hi)], .bool (Rg.meetB ⟨⟨a, b⟩, ⟨c, d⟩⟩ ⟨⟨p, q⟩, ⟨r, t⟩⟩)] := (hdone 0 _ rfl rfl).2 _ rfl
      exact wpOp_val (v := .tuple #[.agg #[.int .u64 ((Rg.meetR ⟨⟨a, b⟩, ⟨c, d⟩⟩ ⟨⟨p, q⟩, ⟨r, t⟩⟩).u.lo), .int .u64 ((Rg.meetR ⟨⟨a, b⟩, ⟨c, d⟩⟩ ⟨⟨p, q⟩, ⟨r, t⟩⟩).u.hi), .int .i64 ((Rg.meetR ⟨⟨a, b⟩, ⟨c, d⟩⟩ ⟨⟨p, q⟩, ⟨r, t⟩⟩).s.lo), .int .i64 ((Rg.meetR ⟨⟨a, b⟩, ⟨c, d⟩⟩ ⟨⟨p, q⟩, ⟨r, t⟩⟩).s.hi)], .bool (Rg.meetB ⟨⟨a, b⟩, ⟨c, d⟩⟩ ⟨⟨p, q⟩, ⟨r, t⟩⟩)]) (w' := wx) rfl rfl (by (revert s92; generalize (.tuple #[.agg #[.int .u64 ((Rg.meetR ⟨⟨a, b⟩, ⟨c, d⟩⟩ ⟨⟨p, q⟩, ⟨r, t⟩⟩).u.lo), .int .u64 ((Rg.meetR ⟨⟨a, b⟩, ⟨c, d⟩⟩ ⟨⟨p, q⟩, ⟨r, t⟩⟩).u.hi), .int .i64 ((Rg.meetR ⟨⟨a, b⟩, ⟨c, d⟩⟩ ⟨⟨p, q⟩, ⟨r, t⟩⟩).s.lo), .int .i64 ((Rg.meetR ⟨⟨a, b⟩, ⟨c, d⟩⟩ ⟨⟨p, q⟩, ⟨r, t⟩⟩).s.hi)], .bool (Rg.meetB ⟨⟨a, b⟩, ⟨c, d⟩⟩ ⟨⟨p, q⟩, ⟨r, t⟩⟩)] : Value) = y0; intro s92); simp [execOp, Act.eval, s92]) ⟨_, rfl, tab_put rfl hs rfl rfl, hS.same 3 rfl⟩
     ·
      have s89 : ax.tmps.getD 89 undef = .tuple #[.agg #[.int .u64 ((Rg.meetR ⟨⟨a, b⟩, ⟨c, d⟩⟩ ⟨⟨p, q⟩, ⟨r, t⟩⟩).u.lo), .int .u64 ((Rg.meetR ⟨⟨a, b⟩, ⟨c, d⟩⟩ ⟨⟨p, q⟩, ⟨r, t⟩⟩).u.hi), .int .i64 ((Rg.meetR ⟨⟨a, b⟩, ⟨c, d⟩⟩ ⟨⟨p, q⟩, ⟨r, t⟩⟩).s.lo), .int .i64 ((Rg.meetR ⟨⟨a, b⟩, ⟨c, d⟩⟩ ⟨⟨p, q⟩, ⟨r, t⟩⟩).s.hi)], .bool (Rg.meetB ⟨⟨a, b⟩, ⟨c, d⟩⟩ ⟨⟨p, q⟩, ⟨r, t⟩⟩)] := (hdone 0 _ rfl rfl).2 _ rfl
      exact wpOp_val (v := .agg #[.int .u64 ((Rg.meetR ⟨⟨a, b⟩, ⟨c, d⟩⟩ ⟨⟨p, q⟩, ⟨r, t⟩⟩).u.lo), .int .u64 ((Rg.meetR ⟨⟨a, b⟩, ⟨c, d⟩⟩ ⟨⟨p, q⟩, ⟨r, t⟩⟩).u.hi), .int .i64 ((Rg.meetR ⟨⟨a, b⟩, ⟨c, d⟩⟩ ⟨⟨p, q⟩, ⟨r, t⟩⟩).s.lo), .int .i64 ((Rg.meetR ⟨⟨a, b⟩, ⟨c, d⟩⟩ ⟨⟨p, q⟩, ⟨r, t⟩⟩).s.hi)]) (w' := wx) rfl rfl (by simp [execOp, Act.eval, s89, go_sem]) ⟨_, rfl, tab_put rfl hs rfl rfl, hS.same 4 rfl⟩
     ·
      have s89 : ax.tmps.getD 89 undef = .tuple #[.agg #[.int .u64 ((Rg.meetR ⟨⟨a, b⟩, ⟨c, d⟩⟩ ⟨⟨p, q⟩, ⟨r, t⟩⟩).u.lo), .int .u64 ((Rg.meetR ⟨⟨a, b⟩, ⟨c, d⟩⟩ ⟨⟨p, q⟩, ⟨r, t⟩⟩).u.hi), .int .i64 ((Rg.meetR ⟨⟨a, b⟩, ⟨c, d⟩⟩ ⟨⟨p, q⟩, ⟨r, t⟩⟩).s.lo), .int .i64 ((Rg.meetR ⟨⟨a, b⟩, ⟨c, d⟩⟩ ⟨⟨p, q⟩, ⟨r, t⟩⟩).s.hi)], .bool (Rg.meetB ⟨⟨a, b⟩, ⟨c, d⟩⟩ ⟨⟨p, q⟩, ⟨r, t⟩⟩)] := (hdone 0 _ rfl rfl).2 _ rfl
      exact wpOp_val (v := .bool (Rg.meetB ⟨⟨a, b⟩, ⟨c, d⟩⟩ ⟨⟨p, q⟩, ⟨r, t⟩⟩)) (w' := wx) rfl rfl (by simp [execOp, Act.eval, s89, go_sem]) ⟨_, rfl, tab_put rfl hs rfl (congrArg Value.bool Ffk4.out), hS.same 5 rfl⟩
     ·
      refine wpOp_val (v := .pointer (some ⟨wx.heap.size, 0, none⟩)) (w' := wx.alloc (.cells #[.int .u64 0, .int .u64 0, .int .i64 0, .int .i64 0] 60)) rfl rfl ?_ ⟨_, rfl, trivial, hS.alloc 6 15 60 #[.int .u64 0, .int .u64 0, .int .i64 0, .int .i64 0] [] [] (some 7) #[.int .u64 ((Rg.meetR ⟨⟨a, b⟩, ⟨c, d⟩⟩ ⟨⟨p, q⟩, ⟨r, t⟩⟩).u.lo), .int .u64 ((Rg.meetR ⟨⟨a, b⟩, ⟨c, d⟩⟩ ⟨⟨p, q⟩, ⟨r, t⟩⟩).u.hi), .int .i64 ((Rg.meetR ⟨⟨a, b⟩, ⟨c, d⟩⟩ ⟨⟨p, q⟩, ⟨r, t⟩⟩).s.lo), .int .i64 ((Rg.meetR ⟨⟨a, b⟩, ⟨c, d⟩⟩ ⟨⟨p, q⟩, ⟨r, t⟩⟩).s.hi)] rfl rfl rfl (by rw [hs]; omega) (not_yet clo hfi (by kernel_rfl))⟩
      · simp [execOp, Act.eval, go_sem]
     ·
      have hd15 := (hdone 0 _ rfl rfl).1
      obtain ⟨g4, s15, n15, r15⟩ := SX.rowA hS [] [] 6 15 60 _ _ 7 rfl hd15 hfi
      have s15 : ax.tmps.getD 15 undef = .pointer (some ⟨g4, 0, none⟩) := s15
      have s93 : ax.tmps.getD 93 undef = .agg #[.int .u64 ((Rg.meetR ⟨⟨a, b⟩, ⟨c, d⟩⟩ ⟨⟨p, q⟩, ⟨r, t⟩⟩).u.lo), .int .u64 ((Rg.meetR ⟨⟨a, b⟩, ⟨c, d⟩⟩ ⟨⟨p, q⟩, ⟨r, t⟩⟩).u.hi), .int .i64 ((Rg.meetR ⟨⟨a, b⟩, ⟨c, d⟩⟩ ⟨⟨p, q⟩, ⟨r, t⟩⟩).s.lo), .int .i64 ((Rg.meetR ⟨⟨a, b⟩, ⟨c, d⟩⟩ ⟨⟨p, q⟩, ⟨r, t⟩⟩).s.hi)] := (hdone 1 _ rfl rfl).2 _ rfl
      have hr : wx.heap[g4]? = some (.cells #[.int .u64 0, .int .u64 0, .int .i64 0, .int .i64 0] 60 (0, 0)) := r15
      exact wpOp_skp (w' := wx.setRow g4 #[.int .u64 ((Rg.meetR ⟨⟨a, b⟩, ⟨c, d⟩⟩ ⟨⟨p, q⟩, ⟨r, t⟩⟩).u.lo), .int .u64 ((Rg.meetR ⟨⟨a, b⟩, ⟨c, d⟩⟩ ⟨⟨p, q⟩, ⟨r, t⟩⟩).u.hi), .int .i64 ((Rg.meetR ⟨⟨a, b⟩, ⟨c, d⟩⟩ ⟨⟨p, q⟩, ⟨r, t⟩⟩).s.lo), .int .i64 ((Rg.meetR ⟨⟨a, b⟩, ⟨c, d⟩⟩ ⟨⟨p, q⟩, ⟨r, t⟩⟩).s.hi)]) rfl rfl (exec_storeR 60 _ _ rfl g4 #[.int .u64 ((Rg.meetR ⟨⟨a, b⟩, ⟨c, d⟩⟩ ⟨⟨p, q⟩, ⟨r, t⟩⟩).u.lo), .int .u64 ((Rg.meetR ⟨⟨a, b⟩, ⟨c, d⟩⟩ ⟨⟨p, q⟩, ⟨r, t⟩⟩).u.hi), .int .i64 ((Rg.meetR ⟨⟨a, b⟩, ⟨c, d⟩⟩ ⟨⟨p, q⟩, ⟨r, t⟩⟩).s.lo), .int .i64 ((Rg.meetR ⟨⟨a, b⟩, ⟨c, d⟩⟩ ⟨⟨p, q⟩, ⟨r, t⟩⟩).s.hi)] (show ax.eval (.tmp 15) = .pointer (some ⟨g4, 0, none⟩) from s15) (show ax.eval (.tmp 93) = .agg #[.int .u64 ((Rg.meetR ⟨⟨a, b⟩, ⟨c, d⟩⟩ ⟨⟨p, q⟩, ⟨r, t⟩⟩).u.lo), .int .u64 ((Rg.meetR ⟨⟨a, b⟩, ⟨c, d⟩⟩ ⟨⟨p, q⟩, ⟨r, t⟩⟩).u.hi), .int .i64 ((Rg.meetR ⟨⟨a, b⟩, ⟨c, d⟩⟩ ⟨⟨p, q⟩, ⟨r, t⟩⟩).s.lo), .int .i64 ((Rg.meetR ⟨⟨a, b⟩, ⟨c, d⟩⟩ ⟨⟨p, q⟩, ⟨r, t⟩⟩).s.hi)] from s93) hr (by kernel_rfl) rfl (by simp [Value.oneCell'])) ⟨undef, rfl, trivial, hS.storeA 7 6 15 60 #[.int .u64 0, .int .u64 0, .int .i64 0, .int .i64 0] #[.int .u64 ((Rg.meetR ⟨⟨a, b⟩, ⟨c, d⟩⟩ ⟨⟨p, q⟩, ⟨r, t⟩⟩).u.lo), .int .u64 ((Rg.meetR ⟨⟨a, b⟩, ⟨c, d⟩⟩ ⟨⟨p, q⟩, ⟨r, t⟩⟩).u.hi), .int .i64 ((Rg.meetR ⟨⟨a, b⟩, ⟨c, d⟩⟩ ⟨⟨p, q⟩, ⟨r, t⟩⟩).s.lo), .int .i64 ((Rg.meetR ⟨⟨a, b⟩, ⟨c, d⟩⟩ ⟨⟨p, q⟩, ⟨r, t⟩⟩).s.hi)] [] [] rfl B6.size hd15 g4 s15 (by decide) rfl (stored_setRow wx g4 _ _ _ hr)⟩
     ·
      have s94 : ax.tmps.getD 94 undef = .bool true := (hdone 0 _ rfl rfl).2 _ rfl
      exact wpOp_val (v := .bool true) (w' := wx) rfl rfl (by simp [execOp, Act.eval, s94]) ⟨_, rfl, tab_put rfl hs rfl rfl, hS.same 8 rfl⟩
   intro a7 w7 fl d7 z7 rest7 R7 hfl hS
   obtain ⟨B7, n7, hBs, hAs, hPs⟩ := hS.finish hfl rfl
   replace d7 := d7.trans d6
   replace z7 := z7.trans z6
   obtain ⟨⟨-, b_g1_7⟩, ⟨-, b_g2_7⟩, ⟨-, b_g3_7⟩, -⟩ := hBs
   obtain ⟨⟨g4, u_g4, q_g4, b_g4_7⟩, -⟩ := hAs
   replace u_g4 : a7.tmps.getD 15 undef = .pointer (some ⟨g4, 0, none⟩) := u_g4
   have m_g4 : w6.heap.size ≤ g4 := q_g4
   replace q_g4 : W.heap.size ≤ g4 := Nat.le_trans B6.size q_g4
   have s4_7 := (rest7 4 (not_of (by kernel_rfl))).trans s4_6
   have s6_7 := (rest7 6 (not_of (by kernel_rfl))).trans s6_6
   have s10_7 := (rest7 10 (not_of (by kernel_rfl))).trans s10_6
   have s16_7 : a7.tmps.getD 16 undef = .bool true := R7 8 _ rfl
   clear R7 rest7 hS hfl hPs
   clear s4_6 s6_6 s7_6 s10_6 s88_6 b_g1_6 b_g2_6 b_g3_6 d6 z6
   refine wp_seq ?_
   cases fk5 : Rg.hasB ⟨⟨a, b⟩, ⟨c, d⟩⟩ u
   case false =>
    have Ffk5 := Lib.hid fk5; clear fk5
    refine wp_regx (SX W w7.heap.size [⟨g1, 60, (cR a b c d), none, #[]⟩, ⟨g2, 60, (cR p q r t), none, #[]⟩, ⟨g3, 60, (cR ((Rg.nar ⟨⟨a, b⟩, ⟨c, d⟩⟩).u.lo) ((Rg.nar ⟨⟨a, b⟩, ⟨c, d⟩⟩).u.hi) ((Rg.nar ⟨⟨a, b⟩, ⟨c, d⟩⟩).s.lo) ((Rg.nar ⟨⟨a, b⟩, ⟨c, d⟩⟩).s.hi)), none, #[]⟩, ⟨g4, 60, (cR ((Rg.meetR ⟨⟨a, b⟩, ⟨c, d⟩⟩ ⟨⟨p, q⟩, ⟨r, t⟩⟩).u.lo) ((Rg.meetR ⟨⟨a, b⟩, ⟨c, d⟩⟩ ⟨⟨p, q⟩, ⟨r, t⟩⟩).u.hi) ((Rg.meetR ⟨⟨a, b⟩, ⟨c, d⟩⟩ ⟨⟨p, q⟩, ⟨r, t⟩⟩).s.lo) ((Rg.meetR ⟨⟨a, b⟩, ⟨c, d⟩⟩ ⟨⟨p, q⟩, ⟨r, t⟩⟩).s.hi)), none, #[]⟩] []) (TabX [fun vx => vx = .agg #[.int .u64 a, .int .u64 b, .int .i64 c, .int .i64 d], fun vx => vx = .int .u64 u, fun vx => vx = .bool false, fun vx => vx = .bool true, fun vx => vx = .bool true, fun vx => vx = .agg #[.int .u64 ((Rg.meetR ⟨⟨a, b⟩, ⟨c, d⟩⟩ ⟨⟨p, q⟩, ⟨r, t⟩⟩).u.lo), .int .u64 ((Rg.meetR ⟨⟨a, b⟩, ⟨c, d⟩⟩ ⟨⟨p, q⟩, ⟨r, t⟩⟩).u.hi), .int .i64 ((Rg.meetR ⟨⟨a, b⟩, ⟨c, d⟩⟩ ⟨⟨p, q⟩, ⟨r, t⟩⟩).s.lo), .int .i64 ((Rg.meetR ⟨⟨a, b⟩, ⟨c, d⟩⟩ ⟨⟨p, q⟩, ⟨r, t⟩⟩).s.hi)], fun vx => vx = .int .u64 u, fun vx => vx = .bool false, fun vx => vx = .bool false, fun vx => vx = .bool true, fun vx => vx = .bool true, fun vx => vx = .bool true, fun vx => vx = .bool true, fun vx => vx = .bool true]) (by kernel_rfl) (back_of (by kernel_rfl)) (dst_of (by kernel_rfl)) (in_ofz (by kernel_rfl) z7) (fun fl w1 hfl hw => SX.start' hw B7 hfl rfl ⟨b_g1_7, b_g2_7, b_g3_7, b_g4_7, trivial⟩) ?h14 ?_
    case h14 =>
      intro ix ox ax wx fl ho hS hfi clo hsz hrest hdone hund
      have t4 := (hrest 4 (not_of (by kernel_rfl))).trans s4_7
      have t6 := (hrest 6 (not_of (by kernel_rfl))).trans s6_7
      have t15 := (hrest 15 (not_of (by kernel_rfl))).trans u_g4
      have t16 := (hrest 16 (not_of (by kernel_rfl))).trans s16_7
      have hs : ax.tmps.size = 108 := hsz.trans z7
      have hi : ix < 14 := (Array.getElem?_eq_some_iff.1 ho).1
      clear hrest hsz hund
      obtain rfl | rfl | rfl | rfl | rfl | rfl | rfl | rfl | rfl | rfl | rfl | rfl | rfl | rfl : ix = 0 ∨ ix = 1 ∨ ix = 2 ∨ ix = 3 ∨ ix = 4 ∨ ix = 5 ∨ ix = 6 ∨ ix = 7 ∨ ix = 8 ∨ ix = 9 ∨ ix = 10 ∨ ix = 11 ∨ ix = 12 ∨ ix = 13 := by omega
      all_goals obtain rfl := Option.some.inj (show some _ = some ox from ho)
      ·
       have hr := hS.rowNi 0 rfl
       exact wpOp_val (v := .agg #[.int .u64 a, .int .u64 b, .int .i64 c, .int .i64 d]) (w' := wx) rfl rfl (exec_loadR 60 _ rfl g1 0 (show ax.eval (.tmp 6) = .pointer (some ⟨g1, 0, none⟩) from t6) hr [.int .u64 a, .int .u64 b, .int .i64 c, .int .i64 d] rfl _ Try.underlying60 rfl (by kernel_rfl)) ⟨_, rfl, tab_put rfl hs rfl rfl, hS.same 0 rfl⟩
      ·
       exact wpOp_val (v := .int .u64 u) (w' := wx) rfl rfl (by simp [execOp, Act.eval, t4]) ⟨_, rfl, tab_put rfl hs rfl rfl, hS.same 1 rfl⟩
      ·
       have s95 : ax.tmps.getD 95 undef = .agg #[.int .u64 a, .int .u64 b, .int .i64 c, .int .i64 d] := (hdone 0 _ rfl rfl).2 _ rfl
       have s96 : ax.tmps.getD 96 undef = .int .u64 u := (hdone 1 _ rfl rfl).2 _ rfl
       refine wpOp_call (args := #[.agg #[.int .u64 a, .int .u64 b, .int .i64 c, .int .i64 d], .int .u64 u]) rfl rfl (exec_call rfl rfl rfl (args2 (show ax.eval (.tmp 95) = .agg #[.int .u64 a, .int .u64 b, .int .i64 c, .int .i64 d] from s95) (show ax.eval (.tmp 96) = .int .u64 u from s96)) Try.func36 (by decide +kernel) rfl) ?_
       · refine (has_n a b c d u wx).mono ?_
         rintro e w' ⟨rfl, b9⟩
         exact ⟨_, rfl, _, rfl, tab_put rfl hs rfl (congrArg Value.bool Ffk5.out), hS.quiet 2 rfl b9⟩
      ·
       exact wpOp_val (v := .bool true) (w' := wx) rfl rfl (by simp [execOp, Act.eval, t16]) ⟨_, rfl, tab_put rfl hs rfl rfl, hS.same 3 rfl⟩
      ·
       have s98 : ax.tmps.getD 98 undef = .bool true := (hdone 0 _ rfl rfl).2 _ rfl
       exact wpOp_val (v := .bool true) (w' := wx) rfl rfl (by simp [execOp, Act.eval, s98]) ⟨_, rfl, tab_put rfl hs rfl rfl, hS.same 4 rfl⟩
      ·
       have hg : ax.tmps.getD 99 undef = .bool true := (hdone 0 _ rfl rfl).2 _ rfl
       have hr := hS.rowNi 3 rfl
       exact wpOp_valw (v := .agg #[.int .u64 ((Rg.meetR ⟨⟨a, b⟩, ⟨c, d⟩⟩ ⟨⟨p, q⟩, ⟨r, t⟩⟩).u.lo), .int .u64 ((Rg.meetR ⟨⟨a, b⟩, ⟨c, d⟩⟩ ⟨⟨p, q⟩, ⟨r, t⟩⟩).u.hi), .int .i64 ((Rg.meetR ⟨⟨a, b⟩, ⟨c, d⟩⟩ ⟨⟨p, q⟩, ⟨r, t⟩⟩).s.lo), .int .i64 ((Rg.meetR ⟨⟨a, b⟩, ⟨c, d⟩⟩ ⟨⟨p, q⟩, ⟨r, t⟩⟩).s.hi)]) (w' := wx) rfl (wanted_yes 4 99 true hg (by rw [hs]; omega) rfl rfl rfl rfl) (exec_loadR 60 _ rfl g4 0 (show ax.eval (.tmp 15) = .pointer (some ⟨g4, 0, none⟩) from t15) hr [.int .u64 ((Rg.meetR ⟨⟨a, b⟩, ⟨c, d⟩⟩ ⟨⟨p, q⟩, ⟨r, t⟩⟩).u.lo), .int .u64 ((Rg.meetR ⟨⟨a, b⟩, ⟨c, d⟩⟩ ⟨⟨p, q⟩, ⟨r, t⟩⟩).u.hi), .int .i64 ((Rg.meetR ⟨⟨a, b⟩, ⟨c, d⟩⟩ ⟨⟨p, q⟩, ⟨r, t⟩⟩).s.lo), .int .i64 ((Rg.meetR ⟨⟨a, b⟩, ⟨c, d⟩⟩ ⟨⟨p, q⟩, ⟨r, t⟩⟩).s.hi)] rfl _ Try.underlying60 rfl (by kernel_rfl)) ⟨_, rfl, tab_put rfl hs rfl rfl, hS.same 5 rfl⟩
      ·
       have hg : ax.tmps.getD 99 undef = .bool true := (hdone 0 _ rfl rfl).2 _ rfl
       exact wpOp_valw (v := .int .u64 u) (w' := wx) rfl (wanted_yes 4 99 true hg (by rw [hs]; omega) rfl rfl rfl rfl) (by simp [execOp, Act.eval, t4]) ⟨_, rfl, tab_put rfl hs rfl rfl, hS.same 6 rfl⟩
      ·
       have hg : ax.tmps.getD 99 undef = .bool true := (hdone 2 _ rfl rfl).2 _ rfl
       have s100 : ax.tmps.getD 100 undef = .agg #[.int .u64 ((Rg.meetR ⟨⟨a, b⟩, ⟨c, d⟩⟩ ⟨⟨p, q⟩, ⟨r, t⟩⟩).u.lo), .int .u64 ((Rg.meetR ⟨⟨a, b⟩, ⟨c, d⟩⟩ ⟨⟨p, q⟩, ⟨r, t⟩⟩).u.hi), .int .i64 ((Rg.meetR ⟨⟨a, b⟩, ⟨c, d⟩⟩ ⟨⟨p, q⟩, ⟨r, t⟩⟩).s.lo), .int .i64 ((Rg.meetR ⟨⟨a, b⟩, ⟨c, d⟩⟩ ⟨⟨p, q⟩, ⟨r, t⟩⟩).s.hi)] := (hdone 0 _ rfl rfl).2 _ rfl
       have s101 : ax.tmps.getD 101 undef = .int .u64 u := (hdone 1 _ rfl rfl).2 _ rfl
       refine wpOp_callw (args := #[.agg #[.int .u64 ((Rg.meetR ⟨⟨a, b⟩, ⟨c, d⟩⟩ ⟨⟨p, q⟩, ⟨r, t⟩⟩).u.lo), .int .u64 ((Rg.meetR ⟨⟨a, b⟩, ⟨c, d⟩⟩ ⟨⟨p, q⟩, ⟨r, t⟩⟩).u.hi), .int .i64 ((Rg.meetR ⟨⟨a, b⟩, ⟨c, d⟩⟩ ⟨⟨p, q⟩, ⟨r, t⟩⟩).s.lo), .int .i64 ((Rg.meetR ⟨⟨a, b⟩, ⟨c, d⟩⟩ ⟨⟨p, q⟩, ⟨r, t⟩⟩).s.hi)], .int .u64 u]) rfl (wanted_yes 4 99 true hg (by rw [hs]; omega) rfl rfl rfl rfl) (exec_call rfl rfl rfl (args2 (show ax.eval (.tmp 100) = .agg #[.int .u64 ((Rg.meetR ⟨⟨a, b⟩, ⟨c, d⟩⟩ ⟨⟨p, q⟩, ⟨r, t⟩⟩).u.lo), .int .u64 ((Rg.meetR ⟨⟨a, b⟩, ⟨c, d⟩⟩ ⟨⟨p, q⟩, ⟨r, t⟩⟩).u.hi), .int .i64 ((Rg.meetR ⟨⟨a, b⟩, ⟨c, d⟩⟩ ⟨⟨p, q⟩, ⟨r, t⟩⟩).s.lo), .int .i64 ((Rg.meetR ⟨⟨a, b⟩, ⟨c, d⟩⟩ ⟨⟨p, q⟩, ⟨r, t⟩⟩).s.hi)] from s100) (show ax.eval (.tmp 101) = .int .u64 u from s101)) Try.func36 (by decide +kernel) rfl) ?_
       · refine (has_n ((Rg.meetR ⟨⟨a, b⟩, ⟨c, d⟩⟩ ⟨⟨p, q⟩, ⟨r, t⟩⟩).u.lo) ((Rg.meetR ⟨⟨a, b⟩, ⟨c, d⟩⟩ ⟨⟨p, q⟩, ⟨r, t⟩⟩).u.hi) ((Rg.meetR ⟨⟨a, b⟩, ⟨c, d⟩⟩ ⟨⟨p, q⟩, ⟨r, t⟩⟩).s.lo) ((Rg.meetR ⟨⟨a, b⟩, ⟨c, d⟩⟩ ⟨⟨p, q⟩, ⟨r, t⟩⟩).s.hi) u wx).mono ?_
         rintro e w' ⟨rfl, b9⟩
         exact ⟨_, rfl, _, rfl, tab_put rfl hs rfl (congrArg Value.bool ((KM1.out Ffk1.out Ffk2.out Ffk4.out).trans Ffk5.out)), hS.quiet 7 rfl b9⟩
      ·
       have s99 : ax.tmps.getD 99 undef = .bool true := (hdone 0 _ rfl rfl).2 _ rfl
       have s102 : ax.tmps.getD 102 undef = .bool false := (hdone 1 _ rfl rfl).2 _ rfl
       exact wpOp_val (v := .bool false) (w' := wx) rfl rfl (by simp [execOp, Act.eval, s99, s102, go_sem]) ⟨_, rfl, tab_put rfl hs rfl rfl, hS.same 8 rfl⟩
      ·
       have s97 : ax.tmps.getD 97 undef = .bool false := (hdone 0 _ rfl rfl).2 _ rfl
       have s103 : ax.tmps.getD 103 undef = .bool false := (hdone 1 _ rfl rfl).2 _ rfl
       exact wpOp_val (v := .bool true) (w' := wx) rfl rfl (by (simp [execOp, Act.eval, s97, s103, go_sem]; try (simp only [IntKind.wrap_i64, wrap64]))) ⟨_, rfl, tab_put rfl hs rfl rfl, hS.same 9 rfl⟩
      ·
       have s104 : ax.tmps.getD 104 undef = .bool true := (hdone 0 _ rfl rfl).2 _ rfl
       exact wpOp_val (v := .bool true) (w' := wx) rfl rfl (by simp [execOp, Act.eval, s104]) ⟨_, rfl, tab_put rfl hs rfl rfl, hS.same 10 rfl⟩
      ·
       have hg : ax.tmps.getD 105 undef = .bool true := (hdone 0 _ rfl rfl).2 _ rfl
       refine wpOp_callw (args := #[]) rfl (wanted_yes 10 105 true hg (by rw [hs]; omega) rfl rfl rfl rfl) (exec_call rfl rfl rfl (args0 ) Try.func46 (by decide +kernel) rfl) ?_
       · refine (wakes_n wx).mono ?_
         rintro e w' ⟨rfl, b9⟩
         exact ⟨_, rfl, _, rfl, tab_put rfl hs rfl rfl, hS.quiet 11 rfl b9⟩
      ·
       have s105 : ax.tmps.getD 105 undef = .bool true := (hdone 0 _ rfl rfl).2 _ rfl
       have s106 : ax.tmps.getD 106 undef = .bool true := (hdone 1 _ rfl rfl).2 _ rfl
       exact wpOp_val (v := .bool true) (w' := wx) rfl rfl (by simp [execOp, Act.eval, s105, s106, go_sem]) ⟨_, rfl, tab_put rfl hs rfl rfl, hS.same 12 rfl⟩
      ·
       have s107 : ax.tmps.getD 107 undef = .bool true := (hdone 0 _ rfl rfl).2 _ rfl
       exact wpOp_val (v := .bool true) (w' := wx) rfl rfl (by simp [execOp, Act.eval, s107]) ⟨_, rfl, tab_put rfl hs rfl rfl, hS.same 13 rfl⟩
    intro a8 w8 fl d8 z8 rest8 R8 hfl hS
    obtain ⟨B8, n8, hBs, hAs, hPs⟩ := hS.finish hfl rfl
    replace d8 := d8.trans d7
    replace z8 := z8.trans z7
    obtain ⟨⟨-, b_g1_8⟩, ⟨-, b_g2_8⟩, ⟨-, b_g3_8⟩, ⟨l_g4_8, b_g4_8⟩, -⟩ := hBs
    replace l_g4_8 : g4 < w7.heap.size := l_g4_8
    have s10_8 : a8.tmps.getD 10 undef = .bool true := R8 13 _ rfl
    clear R8 rest8 hS hfl hPs hAs
    clear u_g4 s4_7 s6_7 s10_7 s16_7 b_g1_7 b_g2_7 b_g3_7 b_g4_7 d7 z7
    refine wp_ret ?_
    try simp only [Exit.inBlock, Exit.then]
    refine bodyPost_ret (res_t (fn := Try.f8) rfl s10_8) d8 ?_
    exact ⟨rfl, B8⟩
   have Ffk5 := Lib.hid fk5; clear fk5
   refine wp_regx (SX W w7.heap.size [⟨g1, 60, (cR a b c d), none, #[]⟩, ⟨g2, 60, (cR p q r t), none, #[]⟩, ⟨g3, 60, (cR ((Rg.nar ⟨⟨a, b⟩, ⟨c, d⟩⟩).u.lo) ((Rg.nar ⟨⟨a, b⟩, ⟨c, d⟩⟩).u.hi) ((Rg.nar ⟨⟨a, b⟩, ⟨c, d⟩⟩).s.lo) ((Rg.nar ⟨⟨a, b⟩, ⟨c, d⟩⟩).s.hi)), none, #[]⟩, ⟨g4, 60, (cR ((Rg.meetR ⟨⟨a, b⟩, ⟨c, d⟩⟩ ⟨⟨p, q⟩, ⟨r, t⟩⟩).u.lo) ((Rg.meetR ⟨⟨a, b⟩, ⟨c, d⟩⟩ ⟨⟨p, q⟩, ⟨r, t⟩⟩).u.hi) ((Rg.meetR ⟨⟨a, b⟩, ⟨c, d⟩⟩ ⟨⟨p, q⟩, ⟨r, t⟩⟩).s.lo) ((Rg.meetR ⟨⟨a, b⟩, ⟨c, d⟩⟩ ⟨⟨p, q⟩, ⟨r, t⟩⟩).s.hi)), none, #[]⟩] []) (TabX [fun vx => vx = .agg #[.int .u64 a, .int .u64 b, .int .i64 c, .int .i64 d], fun vx => vx = .int .u64 u, fun vx => vx = .bool true, fun vx => vx = .bool true, fun vx => vx = .bool true, fun vx => vx = .agg #[.int .u64 ((Rg.meetR ⟨⟨a, b⟩, ⟨c, d⟩⟩ ⟨⟨p, q⟩, ⟨r, t⟩⟩).u.lo), .int .u64 ((Rg.meetR ⟨⟨a, b⟩, ⟨c, d⟩⟩ ⟨⟨p, q⟩, ⟨r, t⟩⟩).u.hi), .int .i64 ((Rg.meetR ⟨⟨a, b⟩, ⟨c, d⟩⟩ ⟨⟨p, q⟩, ⟨r, t⟩⟩).s.lo), .int .i64 ((Rg.meetR ⟨⟨a, b⟩, ⟨c, d⟩⟩ ⟨⟨p, q⟩, ⟨r, t⟩⟩).s.hi)], fun vx => vx = .int .u64 u, fun vx => vx = .bool true, fun vx => vx = .bool true, fun vx => vx = .bool true, fun vx => vx = .bool true, fun vx => vx = .bool true, fun vx => vx = .bool true, fun vx => vx = .bool true]) (by kernel_rfl) (back_of (by kernel_rfl)) (dst_of (by kernel_rfl)) (in_ofz (by kernel_rfl) z7) (fun fl w1 hfl hw => SX.start' hw B7 hfl rfl ⟨b_g1_7, b_g2_7, b_g3_7, b_g4_7, trivial⟩) ?h15 ?_
   case h15 =>
     intro ix ox ax wx fl ho hS hfi clo hsz hrest hdone hund
     have t4 := (hrest 4 (not_of (by kernel_rfl))).trans s4_7
     have t6 := (hrest 6 (not_of (by kernel_rfl))).trans s6_7
     have t15 := (hrest 15 (not_of (by kernel_rfl))).trans u_g4
     have t16 := (hrest 16 (not_of (by kernel_rfl))).trans s16_7
     have hs : ax.tmps.size = 108 := hsz.trans z7
     have hi : ix < 14 := (Array.getElem?_eq_some_iff.1 ho).1
     clear hrest hsz hund
     obtain rfl | rfl | rfl | rfl | rfl | rfl | rfl | rfl | rfl | rfl | rfl | rfl | rfl | rfl : ix = 0 ∨ ix = 1 ∨ ix = 2 ∨ ix = 3 ∨ ix = 4 ∨ ix = 5 ∨ ix = 6 ∨ ix = 7 ∨ ix = 8 ∨ ix = 9 ∨ ix = 10 ∨ ix = 11 ∨ ix = 12 ∨ ix = 13 := by omega
     all_goals obtain rfl := Option.some.inj (show some _ = some ox from ho)
     ·
      have hr := hS.rowNi 0 rfl
      exact wpOp_val (v := .agg #[.int .u64 a, .int .u64 b, .int .i64 c, .int .i64 d]) (w' := wx) rfl rfl (exec_loadR 60 _ rfl g1 0 (show ax.eval (.tmp 6) = .pointer (some ⟨g1, 0, none⟩) from t6) hr [.int .u64 a, .int .u64 b, .int .i64 c, .int .i64 d] rfl _ Try.underlying60 rfl (by kernel_rfl)) ⟨_, rfl, tab_put rfl hs rfl rfl, hS.same 0 rfl⟩
     ·
      exact wpOp_val (v := .int .u64 u) (w' := wx) rfl rfl (by simp [execOp, Act.eval, t4]) ⟨_, rfl, tab_put rfl hs rfl rfl, hS.same 1 rfl⟩
     ·
      have s95 : ax.tmps.getD 95 undef = .agg #[.int .u64 a, .int .u64 b, .int .i64 c, .int .i64 d] := (hdone 0 _ rfl rfl).2 _ rfl
      have s96 : ax.tmps.getD 96 undef = .int .u64 u := (hdone 1 _ rfl rfl).2 _ rfl
      refine wpOp_call (args := #[.agg #[.int .u64 a, .int .u64 b, .int .i64 c, .int .i64 d], .int .u64 u]) rfl rfl (exec_call rfl rfl rfl (args2 (show ax.eval (.tmp 95) = .agg #[.int .u64 a, .int .u64 b, .int .i64 c, .int .i64 d] from s95) (show ax.eval (.tmp 96) = .int .u64 u from s96)) Try.func36 (by decide +kernel) rfl) ?_
      · refine (has_n a b c d u wx).mono ?_
        rintro e w' ⟨rfl, b9⟩
        exact ⟨_, rfl, _, rfl, tab_put rfl hs rfl (congrArg Value.bool Ffk5.out), hS.quiet 2 rfl b9⟩
     ·
      exact wpOp_val (v := .bool true) (w' := wx) rfl rfl (by simp [execOp, Act.eval, t16]) ⟨_, rfl, tab_put rfl hs rfl rfl, hS.same 3 rfl⟩
     ·
      have s98 : ax.tmps.getD 98 undef = .bool true := (hdone 0 _ rfl rfl).2 _ rfl
      exact wpOp_val (v := .bool true) (w' := wx) rfl rfl (by simp [execOp, Act.eval, s98]) ⟨_, rfl, tab_put rfl hs rfl rfl, hS.same 4 rfl⟩
     ·
      have hg : ax.tmps.getD 99 undef = .bool true := (hdone 0 _ rfl rfl).2 _ rfl
      have hr := hS.rowNi 3 rfl
      exact wpOp_valw (v := .agg #[.int .u64 ((Rg.meetR ⟨⟨a, b⟩, ⟨c, d⟩⟩ ⟨⟨p, q⟩, ⟨r, t⟩⟩).u.lo), .int .u64 ((Rg.meetR ⟨⟨a, b⟩, ⟨c, d⟩⟩ ⟨⟨p, q⟩, ⟨r, t⟩⟩).u.hi), .int .i64 ((Rg.meetR ⟨⟨a, b⟩, ⟨c, d⟩⟩ ⟨⟨p, q⟩, ⟨r, t⟩⟩).s.lo), .int .i64 ((Rg.meetR ⟨⟨a, b⟩, ⟨c, d⟩⟩ ⟨⟨p, q⟩, ⟨r, t⟩⟩).s.hi)]) (w' := wx) rfl (wanted_yes 4 99 true hg (by rw [hs]; omega) rfl rfl rfl rfl) (exec_loadR 60 _ rfl g4 0 (show ax.eval (.tmp 15) = .pointer (some ⟨g4, 0, none⟩) from t15) hr [.int .u64 ((Rg.meetR ⟨⟨a, b⟩, ⟨c, d⟩⟩ ⟨⟨p, q⟩, ⟨r, t⟩⟩).u.lo), .int .u64 ((Rg.meetR ⟨⟨a, b⟩, ⟨c, d⟩⟩ ⟨⟨p, q⟩, ⟨r, t⟩⟩).u.hi), .int .i64 ((Rg.meetR ⟨⟨a, b⟩, ⟨c, d⟩⟩ ⟨⟨p, q⟩, ⟨r, t⟩⟩).s.lo), .int .i64 ((Rg.meetR ⟨⟨a, b⟩, ⟨c, d⟩⟩ ⟨⟨p, q⟩, ⟨r, t⟩⟩).s.hi)] rfl _ Try.underlying60 rfl (by kernel_rfl)) ⟨_, rfl, tab_put rfl hs rfl rfl, hS.same 5 rfl⟩
     ·
      have hg : ax.tmps.getD 99 undef = .bool true := (hdone 0 _ rfl rfl).2 _ rfl
      exact wpOp_valw (v := .int .u64 u) (w' := wx) rfl (wanted_yes 4 99 true hg (by rw [hs]; omega) rfl rfl rfl rfl) (by simp [execOp, Act.eval, t4]) ⟨_, rfl, tab_put rfl hs rfl rfl, hS.same 6 rfl⟩
     ·
      have hg : ax.tmps.getD 99 undef = .bool true := (hdone 2 _ rfl rfl).2 _ rfl
      have s100 : ax.tmps.getD 100 undef = .agg #[.int .u64 ((Rg.meetR ⟨⟨a, b⟩, ⟨c, d⟩⟩ ⟨⟨p, q⟩, ⟨r, t⟩⟩).u.lo), .int .u64 ((Rg.meetR ⟨⟨a, b⟩, ⟨c, d⟩⟩ ⟨⟨p, q⟩, ⟨r, t⟩⟩).u.hi), .int .i64 ((Rg.meetR ⟨⟨a, b⟩, ⟨c, d⟩⟩ ⟨⟨p, q⟩, ⟨r, t⟩⟩).s.lo), .int .i64 ((Rg.meetR ⟨⟨a, b⟩, ⟨c, d⟩⟩ ⟨⟨p, q⟩, ⟨r, t⟩⟩).s.hi)] := (hdone 0 _ rfl rfl).2 _ rfl
      have s101 : ax.tmps.getD 101 undef = .int .u64 u := (hdone 1 _ rfl rfl).2 _ rfl
      refine wpOp_callw (args := #[.agg #[.int .u64 ((Rg.meetR ⟨⟨a, b⟩, ⟨c, d⟩⟩ ⟨⟨p, q⟩, ⟨r, t⟩⟩).u.lo), .int .u64 ((Rg.meetR ⟨⟨a, b⟩, ⟨c, d⟩⟩ ⟨⟨p, q⟩, ⟨r, t⟩⟩).u.hi), .int .i64 ((Rg.meetR ⟨⟨a, b⟩, ⟨c, d⟩⟩ ⟨⟨p, q⟩, ⟨r, t⟩⟩).s.lo), .int .i64 ((Rg.meetR ⟨⟨a, b⟩, ⟨c, d⟩⟩ ⟨⟨p, q⟩, ⟨r, t⟩⟩).s.hi)], .int .u64 u]) rfl (wanted_yes 4 99 true hg (by rw [hs]; omega) rfl rfl rfl rfl) (exec_call rfl rfl rfl (args2 (show ax.eval (.tmp 100) = .agg #[.int .u64 ((Rg.meetR ⟨⟨a, b⟩, ⟨c, d⟩⟩ ⟨⟨p, q⟩, ⟨r, t⟩⟩).u.lo), .int .u64 ((Rg.meetR ⟨⟨a, b⟩, ⟨c, d⟩⟩ ⟨⟨p, q⟩, ⟨r, t⟩⟩).u.hi), .int .i64 ((Rg.meetR ⟨⟨a, b⟩, ⟨c, d⟩⟩ ⟨⟨p, q⟩, ⟨r, t⟩⟩).s.lo), .int .i64 ((Rg.meetR ⟨⟨a, b⟩, ⟨c, d⟩⟩ ⟨⟨p, q⟩, ⟨r, t⟩⟩).s.hi)] from s100) (show ax.eval (.tmp 101) = .int .u64 u from s101)) Try.func36 (by decide +kernel) rfl) ?_
      · refine (has_n ((Rg.meetR ⟨⟨a, b⟩, ⟨c, d⟩⟩ ⟨⟨p, q⟩, ⟨r, t⟩⟩).u.lo) ((Rg.meetR ⟨⟨a, b⟩, ⟨c, d⟩⟩ ⟨⟨p, q⟩, ⟨r, t⟩⟩).u.hi) ((Rg.meetR ⟨⟨a, b⟩, ⟨c, d⟩⟩ ⟨⟨p, q⟩, ⟨r, t⟩⟩).s.lo) ((Rg.meetR ⟨⟨a, b⟩, ⟨c, d⟩⟩ ⟨⟨p, q⟩, ⟨r, t⟩⟩).s.hi) u wx).mono ?_
        rintro e w' ⟨rfl, b9⟩
        exact ⟨_, rfl, _, rfl, tab_put rfl hs rfl (congrArg Value.bool ((KM1.out Ffk1.out Ffk2.out Ffk4.out).trans Ffk5.out)), hS.quiet 7 rfl b9⟩
     ·
      have s99 : ax.tmps.getD 99 undef = .bool true := (hdone 0 _ rfl rfl).2 _ rfl
      have s102 : ax.tmps.getD 102 undef = .bool true := (hdone 1 _ rfl rfl).2 _ rfl
      exact wpOp_val (v := .bool true) (w' := wx) rfl rfl (by simp [execOp, Act.eval, s99, s102, go_sem]) ⟨_, rfl, tab_put rfl hs rfl rfl, hS.same 8 rfl⟩
     ·
      have s97 : ax.tmps.getD 97 undef = .bool true := (hdone 0 _ rfl rfl).2 _ rfl
      have s103 : ax.tmps.getD 103 undef = .bool true := (hdone 1 _ rfl rfl).2 _ rfl
      exact wpOp_val (v := .bool true) (w' := wx) rfl rfl (by (simp [execOp, Act.eval, s97, s103, go_sem]; try (simp only [IntKind.wrap_i64, wrap64]))) ⟨_, rfl, tab_put rfl hs rfl rfl, hS.same 9 rfl⟩
     ·
      have s104 : ax.tmps.getD 104 undef = .bool true := (hdone 0 _ rfl rfl).2 _ rfl
      exact wpOp_val (v := .bool true) (w' := wx) rfl rfl (by simp [execOp, Act.eval, s104]) ⟨_, rfl, tab_put rfl hs rfl rfl, hS.same 10 rfl⟩
     ·
      have hg : ax.tmps.getD 105 undef = .bool true := (hdone 0 _ rfl rfl).2 _ rfl
      refine wpOp_callw (args := #[]) rfl (wanted_yes 10 105 true hg (by rw [hs]; omega) rfl rfl rfl rfl) (exec_call rfl rfl rfl (args0 ) Try.func46 (by decide +kernel) rfl) ?_
      · refine (wakes_n wx).mono ?_
        rintro e w' ⟨rfl, b9⟩
        exact ⟨_, rfl, _, rfl, tab_put rfl hs rfl rfl, hS.quiet 11 rfl b9⟩
     ·
      have s105 : ax.tmps.getD 105 undef = .bool true := (hdone 0 _ rfl rfl).2 _ rfl
      have s106 : ax.tmps.getD 106 undef = .bool true := (hdone 1 _ rfl rfl).2 _ rfl
      exact wpOp_val (v := .bool true) (w' := wx) rfl rfl (by simp [execOp, Act.eval, s105, s106, go_sem]) ⟨_, rfl, tab_put rfl hs rfl rfl, hS.same 12 rfl⟩
     ·
      have s107 : ax.tmps.getD 107 undef = .bool true := (hdone 0 _ rfl rfl).2 _ rfl
      exact wpOp_val (v := .bool true) (w' := wx) rfl rfl (by simp [execOp, Act.eval, s107]) ⟨_, rfl, tab_put rfl hs rfl rfl, hS.same 13 rfl⟩
   intro a8 w8 fl d8 z8 rest8 R8 hfl hS
   obtain ⟨B8, n8, hBs, hAs, hPs⟩ := hS.finish hfl rfl
   replace d8 := d8.trans d7
   replace z8 := z8.trans z7
   obtain ⟨⟨-, b_g1_8⟩, ⟨-, b_g2_8⟩, ⟨-, b_g3_8⟩, ⟨l_g4_8, b_g4_8⟩, -⟩ := hBs
   replace l_g4_8 : g4 < w7.heap.size := l_g4_8
   have s10_8 : a8.tmps.getD 10 undef = .bool true := R8 13 _ rfl
   clear R8 rest8 hS hfl hPs hAs
   clear u_g4 s4_7 s6_7 s10_7 s16_7 b_g1_7 b_g2_7 b_g3_7 b_g4_7 d7 z7
   refine wp_ret ?_
   try simp only [Exit.inBlock, Exit.then]
   refine bodyPost_ret (res_t (fn := Try.f8) rfl s10_8) d8 ?_
   exact ⟨rfl, B8⟩
  have Ffk3 := Lib.hid fk3; clear fk3
  refine wp_regx (SX W w5.heap.size [⟨g1, 60, (cR a b c d), none, #[]⟩, ⟨g2, 60, (cR p q r t), none, #[]⟩, ⟨g3, 60, (cR ((Rg.nar ⟨⟨a, b⟩, ⟨c, d⟩⟩).u.lo) ((Rg.nar ⟨⟨a, b⟩, ⟨c, d⟩⟩).u.hi) ((Rg.nar ⟨⟨a, b⟩, ⟨c, d⟩⟩).s.lo) ((Rg.nar ⟨⟨a, b⟩, ⟨c, d⟩⟩).s.hi)), none, #[]⟩] []) (TabX [fun vx => vx = .int .i64 (doE op 64), fun vx => vx = .bool true, fun vx => vx = .bool true, fun vx => vx = .int .i8 op, fun vx => vx = .agg #[.int .u64 a, .int .u64 b, .int .i64 c, .int .i64 d], fun vx => vx = .agg #[.int .u64 p, .int .u64 q, .int .i64 r, .int .i64 t], fun vx => vx = .agg #[.int .u64 ((Rg.doR op ⟨⟨a, b⟩, ⟨c, d⟩⟩ ⟨⟨p, q⟩, ⟨r, t⟩⟩).u.lo), .int .u64 ((Rg.doR op ⟨⟨a, b⟩, ⟨c, d⟩⟩ ⟨⟨p, q⟩, ⟨r, t⟩⟩).u.hi), .int .i64 ((Rg.doR op ⟨⟨a, b⟩, ⟨c, d⟩⟩ ⟨⟨p, q⟩, ⟨r, t⟩⟩).s.lo), .int .i64 ((Rg.doR op ⟨⟨a, b⟩, ⟨c, d⟩⟩ ⟨⟨p, q⟩, ⟨r, t⟩⟩).s.hi)], fun vx => vx = .int .u64 (doI op 64 v u), fun vx => vx = .bool true, fun vx => vx = .bool false, fun vx => vx = .bool false]) (by kernel_rfl) (back_of (by kernel_rfl)) (dst_of (by kernel_rfl)) (in_ofz (by kernel_rfl) z5) (fun fl w1 hfl hw => SX.start' hw B5 hfl rfl ⟨b_g1_5, b_g2_5, b_g3_5, trivial⟩) ?h16 ?_
  case h16 =>
    intro ix ox ax wx fl ho hS hfi clo hsz hrest hdone hund
    have t0 := (hrest 0 (not_of (by kernel_rfl))).trans s0_5
    have t6 := (hrest 6 (not_of (by kernel_rfl))).trans s6_5
    have t7 := (hrest 7 (not_of (by kernel_rfl))).trans s7_5
    have t13 := (hrest 13 (not_of (by kernel_rfl))).trans s13_5
    have t14 := (hrest 14 (not_of (by kernel_rfl))).trans s14_5
    have hs : ax.tmps.size = 108 := hsz.trans z5
    have hi : ix < 11 := (Array.getElem?_eq_some_iff.1 ho).1
    clear hrest hsz hund
    obtain rfl | rfl | rfl | rfl | rfl | rfl | rfl | rfl | rfl | rfl | rfl : ix = 0 ∨ ix = 1 ∨ ix = 2 ∨ ix = 3 ∨ ix = 4 ∨ ix = 5 ∨ ix = 6 ∨ ix = 7 ∨ ix = 8 ∨ ix = 9 ∨ ix = 10 := by omega
    all_goals obtain rfl := Option.some.inj (show some _ = some ox from ho)
    ·
     exact wpOp_val (v := .int .i64 (doE op 64)) (w' := wx) rfl rfl (by simp [execOp, Act.eval, t14]) ⟨_, rfl, tab_put rfl hs rfl rfl, hS.same 0 rfl⟩
    ·
     have s78 : ax.tmps.getD 78 undef = .int .i64 (doE op 64) := (hdone 0 _ rfl rfl).2 _ rfl
     exact wpOp_val (v := .bool ((doE op 64) == 0)) (w' := wx) rfl rfl (by (simp [execOp, Act.eval, s78, go_sem]; try (simp only [IntKind.wrap_i64, wrap64]))) ⟨_, rfl, tab_put rfl hs rfl (congrArg Value.bool Ffk3.out), hS.same 1 rfl⟩
    ·
     have s79 : ax.tmps.getD 79 undef = .bool true := (hdone 0 _ rfl rfl).2 _ rfl
     exact wpOp_val (v := .bool true) (w' := wx) rfl rfl (by simp [execOp, Act.eval, s79]) ⟨_, rfl, tab_put rfl hs rfl rfl, hS.same 2 rfl⟩
    ·
     have hg : ax.tmps.getD 80 undef = .bool true := (hdone 0 _ rfl rfl).2 _ rfl
     exact wpOp_valw (v := .int .i8 op) (w' := wx) rfl (wanted_yes 2 80 true hg (by rw [hs]; omega) rfl rfl rfl rfl) (by simp [execOp, Act.eval, t0]) ⟨_, rfl, tab_put rfl hs rfl rfl, hS.same 3 rfl⟩
    ·
     have hg : ax.tmps.getD 80 undef = .bool true := (hdone 0 _ rfl rfl).2 _ rfl
     have hr := hS.rowNi 0 rfl
     exact wpOp_valw (v := .agg #[.int .u64 a, .int .u64 b, .int .i64 c, .int .i64 d]) (w' := wx) rfl (wanted_yes 2 80 true hg (by rw [hs]; omega) rfl rfl rfl rfl) (exec_loadR 60 _ rfl g1 0 (show ax.eval (.tmp 6) = .pointer (some ⟨g1, 0, none⟩) from t6) hr [.int .u64 a, .int .u64 b, .int .i64 c, .int .i64 d] rfl _ Try.underlying60 rfl (by kernel_rfl)) ⟨_, rfl, tab_put rfl hs rfl rfl, hS.same 4 rfl⟩
    ·
     have hg : ax.tmps.getD 80 undef = .bool true := (hdone 0 _ rfl rfl).2 _ rfl
     have hr := hS.rowNi 1 rfl
     exact wpOp_valw (v := .agg #[.int .u64 p, .int .u64 q, .int .i64 r, .int .i64 t]) (w' := wx) rfl (wanted_yes 2 80 true hg (by rw [hs]; omega) rfl rfl rfl rfl) (exec_loadR 60 _ rfl g2 0 (show ax.eval (.tmp 7) = .pointer (some ⟨g2, 0, none⟩) from t7) hr [.int .u64 p, .int .u64 q, .int .i64 r, .int .i64 t] rfl _ Try.underlying60 rfl (by kernel_rfl)) ⟨_, rfl, tab_put rfl hs rfl rfl, hS.same 5 rfl⟩
    ·
     have hg : ax.tmps.getD 80 undef = .bool true := (hdone 3 _ rfl rfl).2 _ rfl
     have s81 : ax.tmps.getD 81 undef = .int .i8 op := (hdone 0 _ rfl rfl).2 _ rfl
     have s82 : ax.tmps.getD 82 undef = .agg #[.int .u64 a, .int .u64 b, .int .i64 c, .int .i64 d] := (hdone 1 _ rfl rfl).2 _ rfl
     have s83 : ax.tmps.getD 83 undef = .agg #[.int .u64 p, .int .u64 q, .int .i64 r, .int .i64 t] := (hdone 2 _ rfl rfl).2 _ rfl
     refine wpOp_callw (args := #[.int .i8 op, .agg #[.int .u64 a, .int .u64 b, .int .i64 c, .int .i64 d], .agg #[.int .u64 p, .int .u64 q, .int .i64 r, .int .i64 t]]) rfl (wanted_yes 2 80 true hg (by rw [hs]; omega) rfl rfl rfl rfl) (exec_call rfl rfl rfl (args3 (show ax.eval (.tmp 81) = .int .i8 op from s81) (show ax.eval (.tmp 82) = .agg #[.int .u64 a, .int .u64 b, .int .i64 c, .int .i64 d] from s82) (show ax.eval (.tmp 83) = .agg #[.int .u64 p, .int .u64 q, .int .i64 r, .int .i64 t] from s83)) Try.func42 (by decide +kernel) rfl) ?_
     · refine (do_n op a b c d p q r t wx HA.out HB.out).mono ?_
       rintro e w' ⟨rfl, b9⟩
       exact ⟨_, rfl, _, rfl, tab_put rfl hs rfl rfl, hS.quiet 6 rfl b9⟩
    ·
     have hg : ax.tmps.getD 80 undef = .bool true := (hdone 0 _ rfl rfl).2 _ rfl
     exact wpOp_valw (v := .int .u64 (doI op 64 v u)) (w' := wx) rfl (wanted_yes 2 80 true hg (by rw [hs]; omega) rfl rfl rfl rfl) (by simp [execOp, Act.eval, t13]) ⟨_, rfl, tab_put rfl hs rfl rfl, hS.same 7 rfl⟩
    ·
     have hg : ax.tmps.getD 80 undef = .bool true := (hdone 3 _ rfl rfl).2 _ rfl
     have s84 : ax.tmps.getD 84 undef = .agg #[.int .u64 ((Rg.doR op ⟨⟨a, b⟩, ⟨c, d⟩⟩ ⟨⟨p, q⟩, ⟨r, t⟩⟩).u.lo), .int .u64 ((Rg.doR op ⟨⟨a, b⟩, ⟨c, d⟩⟩ ⟨⟨p, q⟩, ⟨r, t⟩⟩).u.hi), .int .i64 ((Rg.doR op ⟨⟨a, b⟩, ⟨c, d⟩⟩ ⟨⟨p, q⟩, ⟨r, t⟩⟩).s.lo), .int .i64 ((Rg.doR op ⟨⟨a, b⟩, ⟨c, d⟩⟩ ⟨⟨p, q⟩, ⟨r, t⟩⟩).s.hi)] := (hdone 0 _ rfl rfl).2 _ rfl
     have s85 : ax.tmps.getD 85 undef = .int .u64 (doI op 64 v u) := (hdone 1 _ rfl rfl).2 _ rfl
     refine wpOp_callw (args := #[.agg #[.int .u64 ((Rg.doR op ⟨⟨a, b⟩, ⟨c, d⟩⟩ ⟨⟨p, q⟩, ⟨r, t⟩⟩).u.lo), .int .u64 ((Rg.doR op ⟨⟨a, b⟩, ⟨c, d⟩⟩ ⟨⟨p, q⟩, ⟨r, t⟩⟩).u.hi), .int .i64 ((Rg.doR op ⟨⟨a, b⟩, ⟨c, d⟩⟩ ⟨⟨p, q⟩, ⟨r, t⟩⟩).s.lo), .int .i64 ((Rg.doR op ⟨⟨a, b⟩, ⟨c, d⟩⟩ ⟨⟨p, q⟩, ⟨r, t⟩⟩).s.hi)], .int .u64 (doI op 64 v u)]) rfl (wanted_yes 2 80 true hg (by rw [hs]; omega) rfl rfl rfl rfl) (exec_call rfl rfl rfl (args2 (show ax.eval (.tmp 84) = .agg #[.int .u64 ((Rg.doR op ⟨⟨a, b⟩, ⟨c, d⟩⟩ ⟨⟨p, q⟩, ⟨r, t⟩⟩).u.lo), .int .u64 ((Rg.doR op ⟨⟨a, b⟩, ⟨c, d⟩⟩ ⟨⟨p, q⟩, ⟨r, t⟩⟩).u.hi), .int .i64 ((Rg.doR op ⟨⟨a, b⟩, ⟨c, d⟩⟩ ⟨⟨p, q⟩, ⟨r, t⟩⟩).s.lo), .int .i64 ((Rg.doR op ⟨⟨a, b⟩, ⟨c, d⟩⟩ ⟨⟨p, q⟩, ⟨r, t⟩⟩).s.hi)] from s84) (show ax.eval (.tmp 85) = .int .u64 (doI op 64 v u) from s85)) Try.func36 (by decide +kernel) rfl) ?_
     · refine (has_n ((Rg.doR op ⟨⟨a, b⟩, ⟨c, d⟩⟩ ⟨⟨p, q⟩, ⟨r, t⟩⟩).u.lo) ((Rg.doR op ⟨⟨a, b⟩, ⟨c, d⟩⟩ ⟨⟨p, q⟩, ⟨r, t⟩⟩).u.hi) ((Rg.doR op ⟨⟨a, b⟩, ⟨c, d⟩⟩ ⟨⟨p, q⟩, ⟨r, t⟩⟩).s.lo) ((Rg.doR op ⟨⟨a, b⟩, ⟨c, d⟩⟩ ⟨⟨p, q⟩, ⟨r, t⟩⟩).s.hi) (doI op 64 v u) wx).mono ?_
       rintro e w' ⟨rfl, b9⟩
       exact ⟨_, rfl, _, rfl, tab_put rfl hs rfl (congrArg Value.bool (KD.out Ffk1.out Ffk2.out Ffk3.out)), hS.quiet 8 rfl b9⟩
    ·
     have hg : ax.tmps.getD 80 undef = .bool true := (hdone 1 _ rfl rfl).2 _ rfl
     have s86 : ax.tmps.getD 86 undef = .bool true := (hdone 0 _ rfl rfl).2 _ rfl
     exact wpOp_valw (v := .bool false) (w' := wx) rfl (wanted_yes 2 80 true hg (by rw [hs]; omega) rfl rfl rfl rfl) (by simp [execOp, Act.eval, s86, go_sem]) ⟨_, rfl, tab_put rfl hs rfl rfl, hS.same 9 rfl⟩
    ·
     have s80 : ax.tmps.getD 80 undef = .bool true := (hdone 0 _ rfl rfl).2 _ rfl
     have s87 : ax.tmps.getD 87 undef = .bool false := (hdone 1 _ rfl rfl).2 _ rfl
     exact wpOp_val (v := .bool false) (w' := wx) rfl rfl (by simp [execOp, Act.eval, s80, s87, go_sem]) ⟨_, rfl, tab_put rfl hs rfl rfl, hS.same 10 rfl⟩
  intro a6 w6 fl d6 z6 rest6 R6 hfl hS
  obtain ⟨B6, n6, hBs, hAs, hPs⟩ := hS.finish hfl rfl
  replace d6 := d6.trans d5
  replace z6 := z6.trans z5
  obtain ⟨⟨-, b_g1_6⟩, ⟨-, b_g2_6⟩, ⟨-, b_g3_6⟩, -⟩ := hBs
  have s4_6 := (rest6 4 (not_of (by kernel_rfl))).trans s4_5
  have s6_6 := (rest6 6 (not_of (by kernel_rfl))).trans s6_5
  have s7_6 := (rest6 7 (not_of (by kernel_rfl))).trans s7_5
  have s10_6 := (rest6 10 (not_of (by kernel_rfl))).trans s10_5
  have s88_6 : a6.tmps.getD 88 undef = .bool false := R6 10 _ rfl
  clear R6 rest6 hS hfl hPs hAs
  clear s0_5 s4_5 s6_5 s7_5 s10_5 s13_5 s14_5 b_g1_5 b_g2_5 b_g3_5 d5 z5
  refine wp_cond_false (show a6.tmps.getD 88 undef = .bool false from s88_6) ?_
  refine wp_skip ?_
  refine wp_seq ?_
  cases fk6 : Rg.meetB ⟨⟨a, b⟩, ⟨c, d⟩⟩ ⟨⟨p, q⟩, ⟨r, t⟩⟩
  case false =>
   have Ffk6 := Lib.hid fk6; clear fk6
   refine wp_regx (SX W w6.heap.size [⟨g1, 60, (cR a b c d), none, #[]⟩, ⟨g2, 60, (cR p q r t), none, #[]⟩, ⟨g3, 60, (cR ((Rg.nar ⟨⟨a, b⟩, ⟨c, d⟩⟩).u.lo) ((Rg.nar ⟨⟨a, b⟩, ⟨c, d⟩⟩).u.hi) ((Rg.nar ⟨⟨a, b⟩, ⟨c, d⟩⟩).s.lo) ((Rg.nar ⟨⟨a, b⟩, ⟨c, d⟩⟩).s.hi)), none, #[]⟩] [⟨6, 15, 60, (cR 0 0 0 0), some 7, (cR ((Rg.meetR ⟨⟨a, b⟩, ⟨c, d⟩⟩ ⟨⟨p, q⟩, ⟨r, t⟩⟩).u.lo) ((Rg.meetR ⟨⟨a, b⟩, ⟨c, d⟩⟩ ⟨⟨p, q⟩, ⟨r, t⟩⟩).u.hi) ((Rg.meetR ⟨⟨a, b⟩, ⟨c, d⟩⟩ ⟨⟨p, q⟩, ⟨r, t⟩⟩).s.lo) ((Rg.meetR ⟨⟨a, b⟩, ⟨c, d⟩⟩ ⟨⟨p, q⟩, ⟨r, t⟩⟩).s.hi))⟩]) (TabX [fun vx => vx = .agg #[.int .u64 a, .int .u64 b, .int .i64 c, .int .i64 d], fun vx => vx = .agg #[.int .u64 p, .int .u64 q, .int .i64 r, .int .i64 t], fun vx => vx = .tuple #[.agg #[.int .u64 ((Rg.meetR ⟨⟨a, b⟩, ⟨c, d⟩⟩ ⟨⟨p, q⟩, ⟨r, t⟩⟩).u.lo), .int .u64 ((Rg.meetR ⟨⟨a, b⟩, ⟨c, d⟩⟩ ⟨⟨p, q⟩, ⟨r, t⟩⟩).u.hi), .int .i64 ((Rg.meetR ⟨⟨a, b⟩, ⟨c, d⟩⟩ ⟨⟨p, q⟩, ⟨r, t⟩⟩).s.lo), .int .i64 ((Rg.meetR ⟨⟨a, b⟩, ⟨c, d⟩⟩ ⟨⟨p, q⟩, ⟨r, t⟩⟩).s.hi)], .bool (Rg.meetB ⟨⟨a, b⟩, ⟨c, d⟩⟩ ⟨⟨p, q⟩, ⟨r, t⟩⟩)], fun vx => vx = .tuple #[.agg #[.int .u64 ((Rg.meetR ⟨⟨a, b⟩, ⟨c, d⟩⟩ ⟨⟨p, q⟩, ⟨r, t⟩⟩).u.lo), .int .u64 ((Rg.meetR ⟨⟨a, b⟩, ⟨c, d⟩⟩ ⟨⟨p, q⟩, ⟨r, t⟩⟩).u.hi), .int .i64 ((Rg.meetR ⟨⟨a, b⟩, ⟨c, d⟩⟩ ⟨⟨p, q⟩, ⟨r, t⟩⟩).s.lo), .int .i64 ((Rg.meetR ⟨⟨a, b⟩, ⟨c, d⟩⟩ ⟨⟨p, q⟩, ⟨r, t⟩⟩).s.hi)], .bool (Rg.meetB ⟨⟨a, b⟩, ⟨c, d⟩⟩ ⟨⟨p, q⟩, ⟨r, t⟩⟩)], fun vx => vx = .agg #[.int .u64 ((Rg.meetR ⟨⟨a, b⟩, ⟨c, d⟩⟩ ⟨⟨p, q⟩, ⟨r, t⟩⟩).u.lo), .int .u64 ((Rg.meetR ⟨⟨a, b⟩, ⟨c, d⟩⟩ ⟨⟨p, q⟩, ⟨r, t⟩⟩).u.hi), .int .i64 ((Rg.meetR ⟨⟨a, b⟩, ⟨c, d⟩⟩ ⟨⟨p, q⟩, ⟨r, t⟩⟩).s.lo), .int .i64 ((Rg.meetR ⟨⟨a, b⟩, ⟨c, d⟩⟩ ⟨⟨p, q⟩, ⟨r, t⟩⟩).s.hi)], fun vx => vx = .bool false, fun _ => True, fun _ => True, fun vx => vx = .bool false]) (by kernel_rfl) (back_of (by kernel_rfl)) (dst_of (by kernel_rfl)) (in_ofz (by kernel_rfl) z6) (fun fl w1 hfl hw => SX.start' hw B6 hfl rfl ⟨b_g1_6, b_g2_6, b_g3_6, trivial⟩) ?h17 ?_
   case h17 =>
     intro ix ox ax wx fl ho hS hfi clo hsz hrest hdone hund
     have t6 := (hrest 6 (not_of (by kernel_rfl))).trans s6_6
     have t7 := (hrest 7 (not_of (by kernel_rfl))).trans s7_6
     have hs : ax.tmps.size = 108 := hsz.trans z6
     have hi : ix < 9 := (Array.getElem?_eq_some_iff.1 ho).1
     clear hrest hsz hund
     obtain rfl | rfl | rfl | rfl | rfl | rfl | rfl | rfl | rfl : ix = 0 ∨ ix = 1 ∨ ix = 2 ∨ ix = 3 ∨ ix = 4 ∨ ix = 5 ∨ ix = 6 ∨ ix = 7 ∨ ix = 8 := by omega
     all_goals obtain rfl := Option.some.inj (show some _ = some ox from ho)
     ·
      have hr := hS.rowNi 0 rfl
      exact wpOp_val (v := .agg #[.int .u64 a, .int .u64 b, .int .i64 c, .int .i64 d]) (w' := wx) rfl rfl (exec_loadR 60 _ rfl g1 0 (show ax.eval (.tmp 6) = .pointer (some ⟨g1, 0, none⟩) from t6) hr [.int .u64 a, .int .u64 b, .int .i64 c, .int .i64 d] rfl _ Try.underlying60 rfl (by kernel_rfl)) ⟨_, rfl, tab_put rfl hs rfl rfl, hS.same 0 rfl⟩
     ·
      have hr := hS.rowNi 1 rfl
      exact wpOp_val (v := .agg #[.int .u64 p, .int .u64 q, .int .i64 r, .int .i64 t]) (w' := wx) rfl rfl (exec_loadR 60 _ rfl g2 0 (show ax.eval (.tmp 7) = .pointer (some ⟨g2, 0, none⟩) from t7) hr [.int .u64 p, .int .u64 q, .int .i64 r, .int .i64 t] rfl _ Try.underlying60 rfl (by kernel_rfl)) ⟨_, rfl, tab_put rfl hs rfl rfl, hS.same 1 rfl⟩
     ·
      have s90 : ax.tmps.getD 90 undef = .agg #[.int .u64 a, .int .u64 b, .int .i64 c, .int .i64 d] := (hdone 0 _ rfl rfl).2 _ rfl
      have s91 : ax.tmps.getD 91 undef = .agg #[.int .u64 p, .int .u64 q, .int .i64 r, .int .i64 t] := (hdone 1 _ rfl rfl).2 _ rfl
      refine wpOp_call (args := #[.agg #[.int .u64 a, .int .u64 b, .int .i64 c, .int .i64 d], .agg #[.int .u64 p, .int .u64 q, .int .i64 r, .int .i64 t]]) rfl rfl (exec_call rfl rfl rfl (args2 (show ax.eval (.tmp 90) = .agg #[.int .u64 a, .int .u64 b, .int .i64 c, .int .i64 d] from s90) (show ax.eval (.tmp 91) = .agg #[.int .u64 p, .int .u64 q, .int .i64 r, .int .i64 t] from s91)) Try.func22 (by decide +kernel) rfl) ?_
      · refine (meet_n a b c d p q r t wx HA.out HB.out).mono ?_
        rintro e w' ⟨rfl, b9⟩
        exact ⟨_, rfl, _, rfl, tab_put rfl hs rfl rfl, hS.quiet 2 rfl b9⟩
     ·
      have s92 : ax.tmps.getD 92 undef = .tuple #[.agg #[.int .u64 ((Rg.meetR ⟨⟨a, b⟩, ⟨c, d⟩⟩ ⟨⟨p, q⟩, ⟨r, t⟩⟩).u.lo), .int .u64 ((Rg.meetR ⟨⟨a, b⟩, ⟨c, d⟩⟩ ⟨⟨p, q⟩, ⟨r, t⟩⟩).u.hi), .int .i64 ((Rg.meetR ⟨⟨a, b⟩, ⟨c, d⟩⟩ ⟨⟨p, q⟩, ⟨r, t⟩⟩).s.lo), .int .i64 ((Rg.meetR ⟨⟨a, b⟩, ⟨c, d⟩⟩ ⟨⟨p, q⟩, ⟨r, t⟩⟩).s.hi)], .bool (Rg.meetB ⟨⟨a, b⟩, ⟨c, d⟩⟩ ⟨⟨p, q⟩, ⟨r, t⟩⟩)] := (hdone 0 _ rfl rfl).2 _ rfl
      exact wpOp_val (v := .tuple #[.agg #[.int .u64 ((Rg.meetR ⟨⟨a, b⟩, ⟨c, d⟩⟩ ⟨⟨p, q⟩, ⟨r, t⟩⟩).u.lo), .int .u64 ((Rg.meetR ⟨⟨a, b⟩, ⟨c, d⟩⟩ ⟨⟨p, q⟩, ⟨r, t⟩⟩).u.hi), .int .i64 ((Rg.meetR ⟨⟨a, b⟩, ⟨c, d⟩⟩ ⟨⟨p, q⟩, ⟨r, t⟩⟩).s.lo), .int .i64 ((Rg.meetR ⟨⟨a, b⟩, ⟨c, d⟩⟩ ⟨⟨p, q⟩, ⟨r, t⟩⟩).s.hi)], .bool (Rg.meetB ⟨⟨a, b⟩, ⟨c, d⟩⟩ ⟨⟨p, q⟩, ⟨r, t⟩⟩)]) (w' := wx) rfl rfl (by (revert s92; generalize (.tuple #[.agg #[.int .u64 ((Rg.meetR ⟨⟨a, b⟩, ⟨c, d⟩⟩ ⟨⟨p, q⟩, ⟨r, t⟩⟩).u.lo), .int .u64 ((Rg.meetR ⟨⟨a, b⟩, ⟨c, d⟩⟩ ⟨⟨p, q⟩, ⟨r, t⟩⟩).u.hi), .int .i64 ((Rg.meetR ⟨⟨a, b⟩, ⟨c, d⟩⟩ ⟨⟨p, q⟩, ⟨r, t⟩⟩).s.lo), .int .i64 ((Rg.meetR ⟨⟨a, b⟩, ⟨c, d⟩⟩ ⟨⟨p, q⟩, ⟨r, t⟩⟩).s.hi)], .bool (Rg.meetB ⟨⟨a, b⟩, ⟨c, d⟩⟩ ⟨⟨p, q⟩, ⟨r, t⟩⟩)] : Value) = y0; intro s92); simp [execOp, Act.eval, s92]) ⟨_, rfl, tab_put rfl hs rfl rfl, hS.same 3 rfl⟩
     ·
      have s89 : ax.tmps.getD 89 undef = .tuple #[.agg #[.int .u64 ((Rg.meetR ⟨⟨a, b⟩, ⟨c, d⟩⟩ ⟨⟨p, q⟩, ⟨r, t⟩⟩).u.lo), .int .u64 ((Rg.meetR ⟨⟨a, b⟩, ⟨c, d⟩⟩ ⟨⟨p, q⟩, ⟨r, t⟩⟩).u.hi), .int .i64 ((Rg.meetR ⟨⟨a, b⟩, ⟨c, d⟩⟩ ⟨⟨p, q⟩, ⟨r, t⟩⟩).s.lo), .int .i64 ((Rg.meetR ⟨⟨a, b⟩, ⟨c, d⟩⟩ ⟨⟨p, q⟩, ⟨r, t⟩⟩).s.hi)], .bool (Rg.meetB ⟨⟨a, b⟩, ⟨c, d⟩⟩ ⟨⟨p, q⟩, ⟨r, t⟩⟩)] := (hdone 0 _ rfl rfl).2 _ rfl
      exact wpOp_val (v := .agg #[.int .u64 ((Rg.meetR ⟨⟨a, b⟩, ⟨c, d⟩⟩ ⟨⟨p, q⟩, ⟨r, t⟩⟩).u.lo), .int .u64 ((Rg.meetR ⟨⟨a, b⟩, ⟨c, d⟩⟩ ⟨⟨p, q⟩, ⟨r, t⟩⟩).u.hi), .int .i64 ((Rg.meetR ⟨⟨a, b⟩, ⟨c, d⟩⟩ ⟨⟨p, q⟩, ⟨r, t⟩⟩).s.lo), .int .i64 ((Rg.meetR ⟨⟨a, b⟩, ⟨c, d⟩⟩ ⟨⟨p, q⟩, ⟨r, t⟩⟩).s.hi)]) (w' := wx) rfl rfl (by simp [execOp, Act.eval, s89, go_sem]) ⟨_, rfl, tab_put rfl hs rfl rfl, hS.same 4 rfl⟩
     ·
      have s89 : ax.tmps.getD 89 undef = .tuple #[.agg #[.int .u64 ((Rg.meetR ⟨⟨a, b⟩, ⟨c, d⟩⟩ ⟨⟨p, q⟩, ⟨r, t⟩⟩).u.lo), .int .u64 ((Rg.meetR ⟨⟨a, b⟩, ⟨c, d⟩⟩ ⟨⟨p, q⟩, ⟨r, t⟩⟩).u.hi), .int .i64 ((Rg.meetR ⟨⟨a, b⟩, ⟨c, d⟩⟩ ⟨⟨p, q⟩, ⟨r, t⟩⟩).s.lo), .int .i64 ((Rg.meetR ⟨⟨a, b⟩, ⟨c, d⟩⟩ ⟨⟨p, q⟩, ⟨r, t⟩⟩).s.hi)], .bool (Rg.meetB ⟨⟨a, b⟩, ⟨c, d⟩⟩ ⟨⟨p, q⟩, ⟨r, t⟩⟩)] := (hdone 0 _ rfl rfl).2 _ rfl
      exact wpOp_val (v := .bool (Rg.meetB ⟨⟨a, b⟩, ⟨c, d⟩⟩ ⟨⟨p, q⟩, ⟨r, t⟩⟩)) (w' := wx) rfl rfl (by simp [execOp, Act.eval, s89, go_sem]) ⟨_, rfl, tab_put rfl hs rfl (congrArg Value.bool Ffk6.out), hS.same 5 rfl⟩
     ·
      refine wpOp_val (v := .pointer (some ⟨wx.heap.size, 0, none⟩)) (w' := wx.alloc (.cells #[.int .u64 0, .int .u64 0, .int .i64 0, .int .i64 0] 60)) rfl rfl ?_ ⟨_, rfl, trivial, hS.alloc 6 15 60 #[.int .u64 0, .int .u64 0, .int .i64 0, .int .i64 0] [] [] (some 7) #[.int .u64 ((Rg.meetR ⟨⟨a, b⟩, ⟨c, d⟩⟩ ⟨⟨p, q⟩, ⟨r, t⟩⟩).u.lo), .int .u64 ((Rg.meetR ⟨⟨a, b⟩, ⟨c, d⟩⟩ ⟨⟨p, q⟩, ⟨r, t⟩⟩).u.hi), .int .i64 ((Rg.meetR ⟨⟨a, b⟩, ⟨c, d⟩⟩ ⟨⟨p, q⟩, ⟨r, t⟩⟩).s.lo), .int .i64 ((Rg.meetR ⟨⟨a, b⟩, ⟨c, d⟩⟩ ⟨⟨p, q⟩, ⟨r, t⟩⟩).s.hi)] rfl rfl rfl (by rw [hs]; omega) (not_yet clo hfi (by kernel_rfl))⟩
      · simp [execOp, Act.eval, go_sem]
     ·
      have hd15 := (hdone 0 _ rfl rfl).1
      obtain ⟨g4, s15, n15, r15⟩ := SX.rowA hS [] [] 6 15 60 _ _ 7 rfl hd15 hfi
      have s15 : ax.tmps.getD 15 undef = .pointer (some ⟨g4, 0, none⟩) := s15
      have s93 : ax.tmps.getD 93 undef = .agg #[.int .u64 ((Rg.meetR ⟨⟨a, b⟩, ⟨c, d⟩⟩ ⟨⟨p, q⟩, ⟨r, t⟩⟩).u.lo), .int .u64 ((Rg.meetR ⟨⟨a, b⟩, ⟨c, d⟩⟩ ⟨⟨p, q⟩, ⟨r, t⟩⟩).u.hi), .int .i64 ((Rg.meetR ⟨⟨a, b⟩, ⟨c, d⟩⟩ ⟨⟨p, q⟩, ⟨r, t⟩⟩).s.lo), .int .i64 ((Rg.meetR ⟨⟨a, b⟩, ⟨c, d⟩⟩ ⟨⟨p, q⟩, ⟨r, t⟩⟩).s.hi)] := (hdone 1 _ rfl rfl).2 _ rfl
      have hr : wx.heap[g4]? = some (.cells #[.int .u64 0, .int .u64 0, .int .i64 0, .int .i64 0] 60 (0, 0)) := r15
      exact wpOp_skp (w' := wx.setRow g4 #[.int .u64 ((Rg.meetR ⟨⟨a, b⟩, ⟨c, d⟩⟩ ⟨⟨p, q⟩, ⟨r, t⟩⟩).u.lo), .int .u64 ((Rg.meetR ⟨⟨a, b⟩, ⟨c, d⟩⟩ ⟨⟨p, q⟩, ⟨r, t⟩⟩).u.hi), .int .i64 ((Rg.meetR ⟨⟨a, b⟩, ⟨c, d⟩⟩ ⟨⟨p, q⟩, ⟨r, t⟩⟩).s.lo), .int .i64 ((Rg.meetR ⟨⟨a, b⟩, ⟨c, d⟩⟩ ⟨⟨p, q⟩, ⟨r, t⟩⟩).s.hi)]) rfl rfl (exec_storeR 60 _ _ rfl g4 #[.int .u64 ((Rg.meetR ⟨⟨a, b⟩, ⟨c, d⟩⟩ ⟨⟨p, q⟩, ⟨r, t⟩⟩).u.lo), .int .u64 ((Rg.meetR ⟨⟨a, b⟩, ⟨c, d⟩⟩ ⟨⟨p, q⟩, ⟨r, t⟩⟩).u.hi), .int .i64 ((Rg.meetR ⟨⟨a, b⟩, ⟨c, d⟩⟩ ⟨⟨p, q⟩, ⟨r, t⟩⟩).s.lo), .int .i64 ((Rg.meetR ⟨⟨a, b⟩, ⟨c, d⟩⟩ ⟨⟨p, q⟩, ⟨r, t⟩⟩).s.hi)] (show ax.eval (.tmp 15) = .pointer (some ⟨g4, 0, none⟩) from s15) (show ax.eval (.tmp 93) = .agg #[.int .u64 ((Rg.meetR ⟨⟨a, b⟩, ⟨c, d⟩⟩ ⟨⟨p, q⟩, ⟨r, t⟩⟩).u.lo), .int .u64 ((Rg.meetR ⟨⟨a, b⟩, ⟨c, d⟩⟩ ⟨⟨p, q⟩, ⟨r, t⟩⟩).u.hi), .int .i64 ((Rg.meetR ⟨⟨a, b⟩, ⟨c, d⟩⟩ ⟨⟨p, q⟩, ⟨r, t⟩⟩).s.lo), .int .i64 ((Rg.meetR ⟨⟨a, b⟩, ⟨c, d⟩⟩ ⟨⟨p, q⟩, ⟨r, t⟩⟩).s.hi)] from s93) hr (by kernel_rfl) rfl (by simp [Value.oneCell'])) ⟨undef, rfl, trivial, hS.storeA 7 6 15 60 #[.int .u64 0, .int .u64 0, .int .i64 0, .int .i64 0] #[.int .u64 ((Rg.meetR ⟨⟨a, b⟩, ⟨c, d⟩⟩ ⟨⟨p, q⟩, ⟨r, t⟩⟩).u.lo), .int .u64 ((Rg.meetR ⟨⟨a, b⟩, ⟨c, d⟩⟩ ⟨⟨p, q⟩, ⟨r, t⟩⟩).u.hi), .int .i64 ((Rg.meetR ⟨⟨a, b⟩, ⟨c, d⟩⟩ ⟨⟨p, q⟩, ⟨r, t⟩⟩).s.lo), .int .i64 ((Rg.meetR ⟨⟨a, b⟩, ⟨c, d⟩⟩ ⟨⟨p, q⟩, ⟨r, t⟩⟩).s.hi)] [] [] rfl B6.size hd15 g4 s15 (by decide) rfl (stored_setRow wx g4 _ _ _ hr)⟩
     ·
      have s94 : ax.tmps.getD 94 undef = .bool false := (hdone 0 _ rfl rfl).2 _ rfl
      exact wpOp_val (v := .bool false) (w' := wx) rfl rfl (by simp [execOp, Act.eval, s94]) ⟨_, rfl, tab_put rfl hs rfl rfl, hS.same 8 rfl⟩
   intro a7 w7 fl d7 z7 rest7 R7 hfl hS
   obtain ⟨B7, n7, hBs, hAs, hPs⟩ := hS.finish hfl rfl
   replace d7 := d7.trans d6
   replace z7 := z7.trans z6
   obtain ⟨⟨-, b_g1_7⟩, ⟨-, b_g2_7⟩, ⟨-, b_g3_7⟩, -⟩ := hBs
   obtain ⟨⟨g4, u_g4, q_g4, b_g4_7⟩, -⟩ := hAs
   replace u_g4 : a7.tmps.getD 15 undef = .pointer (some ⟨g4, 0, none⟩) := u_g4
   have m_g4 : w6.heap.size ≤ g4 := q_g4
   replace q_g4 : W.heap.size ≤ g4 := Nat.le_trans B6.size q_g4
   have s4_7 := (rest7 4 (not_of (by kernel_rfl))).trans s4_6
   have s6_7 := (rest7 6 (not_of (by kernel_rfl))).trans s6_6
   have s10_7 := (rest7 10 (not_of (by kernel_rfl))).trans s10_6
   have s16_7 : a7.tmps.getD 16 undef = .bool false := R7 8 _ rfl
   clear R7 rest7 hS hfl hPs
   clear s4_6 s6_6 s7_6 s10_6 s88_6 b_g1_6 b_g2_6 b_g3_6 d6 z6
   refine wp_seq ?_
   refine wp_regx (SX W w7.heap.size [⟨g1, 60, (cR a b c d), none, #[]⟩, ⟨g2, 60, (cR p q r t), none, #[]⟩, ⟨g3, 60, (cR ((Rg.nar ⟨⟨a, b⟩, ⟨c, d⟩⟩).u.lo) ((Rg.nar ⟨⟨a, b⟩, ⟨c, d⟩⟩).u.hi) ((Rg.nar ⟨⟨a, b⟩, ⟨c, d⟩⟩).s.lo) ((Rg.nar ⟨⟨a, b⟩, ⟨c, d⟩⟩).s.hi)), none, #[]⟩, ⟨g4, 60, (cR ((Rg.meetR ⟨⟨a, b⟩, ⟨c, d⟩⟩ ⟨⟨p, q⟩, ⟨r, t⟩⟩).u.lo) ((Rg.meetR ⟨⟨a, b⟩, ⟨c, d⟩⟩ ⟨⟨p, q⟩, ⟨r, t⟩⟩).u.hi) ((Rg.meetR ⟨⟨a, b⟩, ⟨c, d⟩⟩ ⟨⟨p, q⟩, ⟨r, t⟩⟩).s.lo) ((Rg.meetR ⟨⟨a, b⟩, ⟨c, d⟩⟩ ⟨⟨p, q⟩, ⟨r, t⟩⟩).s.hi)), none, #[]⟩] []) (TabX [fun vx => vx = .agg #[.int .u64 a, .int .u64 b, .int .i64 c, .int .i64 d], fun vx => vx = .int .u64 u, fun vx => vx = .bool false, fun vx => vx = .bool false, fun vx => vx = .bool false, fun vx => vx = undef, fun vx => vx = undef, fun vx => vx = undef, fun vx => vx = .bool false, fun vx => vx = .bool true, fun vx => vx = .bool true, fun vx => vx = .bool true, fun vx => vx = .bool true, fun vx => vx = .bool true]) (by kernel_rfl) (back_of (by kernel_rfl)) (dst_of (by kernel_rfl)) (in_ofz (by kernel_rfl) z7) (fun fl w1 hfl hw => SX.start' hw B7 hfl rfl ⟨b_g1_7, b_g2_7, b_g3_7, b_g4_7, trivial⟩) ?h18 ?_
   case h18 =>
     intro ix ox ax wx fl ho hS hfi clo hsz hrest hdone hund
     have t4 := (hrest 4 (not_of (by kernel_rfl))).trans s4_7
     have t6 := (hrest 6 (not_of (by kernel_rfl))).trans s6_7
     have t15 := (hrest 15 (not_of (by kernel_rfl))).trans u_g4
     have t16 := (hrest 16 (not_of (by kernel_rfl))).trans s16_7
     have hs : ax.tmps.size = 108 := hsz.trans z7
     have hi : ix < 14 := (Array.getElem?_eq_some_iff.1 ho).1
     clear hrest hsz hund
     obtain rfl | rfl | rfl | rfl | rfl | rfl | rfl | rfl | rfl | rfl | rfl | rfl | rfl | rfl : ix = 0 ∨ ix = 1 ∨ ix = 2 ∨ ix = 3 ∨ ix = 4 ∨ ix = 5 ∨ ix = 6 ∨ ix = 7 ∨ ix = 8 ∨ ix = 9 ∨ ix = 10 ∨ ix = 11 ∨ ix = 12 ∨ ix = 13 := by omega
     all_goals obtain rfl := Option.some.inj (show some _ = some ox from ho)
     ·
      have hr := hS.rowNi 0 rfl
      exact wpOp_val (v := .agg #[.int .u64 a, .int .u64 b, .int .i64 c, .int .i64 d]) (w' := wx) rfl rfl (exec_loadR 60 _ rfl g1 0 (show ax.eval (.tmp 6) = .pointer (some ⟨g1, 0, none⟩) from t6) hr [.int .u64 a, .int .u64 b, .int .i64 c, .int .i64 d] rfl _ Try.underlying60 rfl (by kernel_rfl)) ⟨_, rfl, tab_put rfl hs rfl rfl, hS.same 0 rfl⟩
     ·
      exact wpOp_val (v := .int .u64 u) (w' := wx) rfl rfl (by simp [execOp, Act.eval, t4]) ⟨_, rfl, tab_put rfl hs rfl rfl, hS.same 1 rfl⟩
     ·
      have s95 : ax.tmps.getD 95 undef = .agg #[.int .u64 a, .int .u64 b, .int .i64 c, .int .i64 d] := (hdone 0 _ rfl rfl).2 _ rfl
      have s96 : ax.tmps.getD 96 undef = .int .u64 u := (hdone 1 _ rfl rfl).2 _ rfl
      refine wpOp_call (args := #[.agg #[.int .u64 a, .int .u64 b, .int .i64 c, .int .i64 d], .int .u64 u]) rfl rfl (exec_call rfl rfl rfl (args2 (show ax.eval (.tmp 95) = .agg #[.int .u64 a, .int .u64 b, .int .i64 c, .int .i64 d] from s95) (show ax.eval (.tmp 96) = .int .u64 u from s96)) Try.func36 (by decide +kernel) rfl) ?_
      · refine (has_n a b c d u wx).mono ?_
        rintro e w' ⟨rfl, b9⟩
        exact ⟨_, rfl, _, rfl, tab_put rfl hs rfl (congrArg Value.bool (KM0.out Ffk1.out Ffk2.out Ffk6.out)), hS.quiet 2 rfl b9⟩
     ·
      exact wpOp_val (v := .bool false) (w' := wx) rfl rfl (by simp [execOp, Act.eval, t16]) ⟨_, rfl, tab_put rfl hs rfl rfl, hS.same 3 rfl⟩
     ·
      have s98 : ax.tmps.getD 98 undef = .bool false := (hdone 0 _ rfl rfl).2 _ rfl
      exact wpOp_val (v := .bool false) (w' := wx) rfl rfl (by simp [execOp, Act.eval, s98]) ⟨_, rfl, tab_put rfl hs rfl rfl, hS.same 4 rfl⟩
     ·
      have hg : ax.tmps.getD 99 undef = .bool false := (hdone 0 _ rfl rfl).2 _ rfl
      exact wpOp_no rfl (wanted_no 4 99 false hg (by rw [hs]; omega) rfl rfl rfl rfl) ⟨_, rfl, tab_put rfl hs rfl rfl, hS.same 5 rfl⟩
     ·
      have hg : ax.tmps.getD 99 undef = .bool false := (hdone 0 _ rfl rfl).2 _ rfl
      exact wpOp_no rfl (wanted_no 4 99 false hg (by rw [hs]; omega) rfl rfl rfl rfl) ⟨_, rfl, tab_put rfl hs rfl rfl, hS.same 6 rfl⟩
     ·
      have hg : ax.tmps.getD 99 undef = .bool false := (hdone 2 _ rfl rfl).2 _ rfl
      exact wpOp_no rfl (wanted_no 4 99 false hg (by rw [hs]; omega) rfl rfl rfl rfl) ⟨_, rfl, tab_put rfl hs rfl rfl, hS.same 7 rfl⟩
     ·
      have s99 : ax.tmps.getD 99 undef = .bool false := (hdone 0 _ rfl rfl).2 _ rfl
      have s102 : ax.tmps.getD 102 undef = undef := (hdone 1 _ rfl rfl).2 _ rfl
      exact wpOp_val (v := .bool false) (w' := wx) rfl rfl (by simp [execOp, Act.eval, s99, s102, go_sem]) ⟨_, rfl, tab_put rfl hs rfl rfl, hS.same 8 rfl⟩
     ·
      have s97 : ax.tmps.getD 97 undef = .bool false := (hdone 0 _ rfl rfl).2 _ rfl
      have s103 : ax.tmps.getD 103 undef = .bool false := (hdone 1 _ rfl rfl).2 _ rfl
      exact wpOp_val (v := .bool true) (w' := wx) rfl rfl (by (simp [execOp, Act.eval, s97, s103, go_sem]; try (simp only [IntKind.wrap_i64, wrap64]))) ⟨_, rfl, tab_put rfl hs rfl rfl, hS.same 9 rfl⟩
     ·
      have s104 : ax.tmps.getD 104 undef = .bool true := (hdone 0 _ rfl rfl).2 _ rfl
      exact wpOp_val (v := .bool true) (w' := wx) rfl rfl (by simp [execOp, Act.eval, s104]) ⟨_, rfl, tab_put rfl hs rfl rfl, hS.same 10 rfl⟩
     ·
      have hg : ax.tmps.getD 105 undef = .bool true := (hdone 0 _ rfl rfl).2 _ rfl
      refine wpOp_callw (args := #[]) rfl (wanted_yes 10 105 true hg (by rw [hs]; omega) rfl rfl rfl rfl) (exec_call rfl rfl rfl (args0 ) Try.func46 (by decide +kernel) rfl) ?_
      · refine (wakes_n wx).mono ?_
        rintro e w' ⟨rfl, b9⟩
        exact ⟨_, rfl, _, rfl, tab_put rfl hs rfl rfl, hS.quiet 11 rfl b9⟩
     ·
      have s105 : ax.tmps.getD 105 undef = .bool true := (hdone 0 _ rfl rfl).2 _ rfl
      have s106 : ax.tmps.getD 106 undef = .bool true := (hdone 1 _ rfl rfl).2 _ rfl
      exact wpOp_val (v := .bool true) (w' := wx) rfl rfl (by simp [execOp, Act.eval, s105, s106, go_sem]) ⟨_, rfl, tab_put rfl hs rfl rfl, hS.same 12 rfl⟩
     ·
      have s107 : ax.tmps.getD 107 undef = .bool true := (hdone 0 _ rfl rfl).2 _ rfl
      exact wpOp_val (v := .bool true) (w' := wx) rfl rfl (by simp [execOp, Act.eval, s107]) ⟨_, rfl, tab_put rfl hs rfl rfl, hS.same 13 rfl⟩
   intro a8 w8 fl d8 z8 rest8 R8 hfl hS
   obtain ⟨B8, n8, hBs, hAs, hPs⟩ := hS.finish hfl rfl
   replace d8 := d8.trans d7
   replace z8 := z8.trans z7
   obtain ⟨⟨-, b_g1_8⟩, ⟨-, b_g2_8⟩, ⟨-, b_g3_8⟩, ⟨l_g4_8, b_g4_8⟩, -⟩ := hBs
   replace l_g4_8 : g4 < w7.heap.size := l_g4_8
   have s10_8 : a8.tmps.getD 10 undef = .bool true := R8 13 _ rfl
   clear R8 rest8 hS hfl hPs hAs
   clear u_g4 s4_7 s6_7 s10_7 s16_7 b_g1_7 b_g2_7 b_g3_7 b_g4_7 d7 z7
   refine wp_ret ?_
   try simp only [Exit.inBlock, Exit.then]
   refine bodyPost_ret (res_t (fn := Try.f8) rfl s10_8) d8 ?_
   exact ⟨rfl, B8⟩
  have Ffk6 := Lib.hid fk6; clear fk6
  refine wp_regx (SX W w6.heap.size [⟨g1, 60, (cR a b c d), none, #[]⟩, ⟨g2, 60, (cR p q r t), none, #[]⟩, ⟨g3, 60, (cR ((Rg.nar ⟨⟨a, b⟩, ⟨c, d⟩⟩).u.lo) ((Rg.nar ⟨⟨a, b⟩, ⟨c, d⟩⟩).u.hi) ((Rg.nar ⟨⟨a, b⟩, ⟨c, d⟩⟩).s.lo) ((Rg.nar ⟨⟨a, b⟩, ⟨c, d⟩⟩).s.hi)), none, #[]⟩] [⟨6, 15, 60, (cR 0 0 0 0), some 7, (cR ((Rg.meetR ⟨⟨a, b⟩, ⟨c, d⟩⟩ ⟨⟨p, q⟩, ⟨r, t⟩⟩).u.lo) ((Rg.meetR ⟨⟨a, b⟩, ⟨c, d⟩⟩ ⟨⟨p, q⟩, ⟨r, t⟩⟩).u.hi) ((Rg.meetR ⟨⟨a, b⟩, ⟨c, d⟩⟩ ⟨⟨p, q⟩, ⟨r, t⟩⟩).s.lo) ((Rg.meetR ⟨⟨a, b⟩, ⟨c, d⟩⟩ ⟨⟨p, q⟩, ⟨r, t⟩⟩).s.hi))⟩]) (TabX [fun vx => vx = .agg #[.int .u64 a, .int .u64 b, .int .i64 c, .int .i64 d], fun vx => vx = .agg #[.int .u64 p, .int .u64 q, .int .i64 r, .int .i64 t], fun vx => vx = .tuple #[.agg #[.int .u64 ((Rg.meetR ⟨⟨a, b⟩, ⟨c, d⟩⟩ ⟨⟨p, q⟩, ⟨r, t⟩⟩).u.lo), .int .u64 ((Rg.meetR ⟨⟨a, b⟩, ⟨c, d⟩⟩ ⟨⟨p, q⟩, ⟨r, t⟩⟩).u.hi), .int .i64 ((Rg.meetR ⟨⟨a, b⟩, ⟨c, d⟩⟩ ⟨⟨p, q⟩, ⟨r, t⟩⟩).s.lo), .int .i64 ((Rg.meetR ⟨⟨a, b⟩, ⟨c, d⟩⟩ ⟨⟨p, q⟩, ⟨r, t⟩⟩).s.hi)], .bool (Rg.meetB ⟨⟨a, b⟩, ⟨c, d⟩⟩ ⟨⟨p, q⟩, ⟨r, t⟩⟩)], fun vx => vx = .tuple #[.agg #[.int .u64 ((Rg.meetR ⟨⟨a, b⟩, ⟨c, d⟩⟩ ⟨⟨p, q⟩, ⟨r, t⟩⟩).u.lo), .int .u64 ((Rg.meetR ⟨⟨a, b⟩, ⟨c, d⟩⟩ ⟨⟨p, q⟩, ⟨r, t⟩⟩).u.hi), .int .i64 ((Rg.meetR ⟨⟨a, b⟩, ⟨c, d⟩⟩ ⟨⟨p, q⟩, ⟨r, t⟩⟩).s.lo), .int .i64 ((Rg.meetR ⟨⟨a, b⟩, ⟨c, d⟩⟩ ⟨⟨p, q⟩, ⟨r, t⟩⟩).s.hi)], .bool (Rg.meetB ⟨⟨a, b⟩, ⟨c, d⟩⟩ ⟨⟨p, q⟩, ⟨r, t⟩⟩)], fun vx => vx = .agg #[.int .u64 ((Rg.meetR ⟨⟨a, b⟩, ⟨c, d⟩⟩ ⟨⟨p, q⟩, ⟨r, t⟩⟩).u.lo), .int .u64 ((Rg.meetR ⟨⟨a, b⟩, ⟨c, d⟩⟩ ⟨⟨p, q⟩, ⟨r, t⟩⟩).u.hi), .int .i64 ((Rg.meetR ⟨⟨a, b⟩, ⟨c, d⟩⟩ ⟨⟨p, q⟩, ⟨r, t⟩⟩).s.lo), .int .i64 ((Rg.meetR ⟨⟨a, b⟩, ⟨c, d⟩⟩ ⟨⟨p, q⟩, ⟨r, t⟩⟩).s.hi)], fun vx => vx = .bool true, fun _ => True, fun _ => True, fun vx => vx = .bool true]) (by kernel_rfl) (back_of (by kernel_rfl)) (dst_of (by kernel_rfl)) (in_ofz (by kernel_rfl) z6) (fun fl w1 hfl hw => SX.start' hw B6 hfl rfl ⟨b_g1_6, b_g2_6, b_g3_6, trivial⟩) ?h19 ?_
  case h19 =>
    intro ix ox ax wx fl ho hS hfi clo hsz hrest hdone hund
    have t6 := (hrest 6 (not_of (by kernel_rfl))).trans s6_6
    have t7 := (hrest 7 (not_of (by kernel_rfl))).trans s7_6
    have hs : ax.tmps.size = 108 := hsz.trans z6
    have hi : ix < 9 := (Array.getElem?_eq_some_iff.1 ho).1
    clear hrest hsz hund
    obtain rfl | rfl | rfl | rfl | rfl | rfl | rfl | rfl | rfl : ix = 0 ∨ ix = 1 ∨ ix = 2 ∨ ix = 3 ∨ ix = 4 ∨ ix = 5 ∨ ix = 6 ∨ ix = 7 ∨ ix = 8 := by omega
    all_goals obtain rfl := Option.some.inj (show some _ = some ox from ho)
    ·
     have hr := hS.rowNi 0 rfl
     exact wpOp_val (v := .agg #[.int .u64 a, .int .u64 b, .int .i64 c, .int .i64 d]) (w' := wx) rfl rfl (exec_loadR 60 _ rfl g1 0 (show ax.eval (.tmp 6) = .pointer (some ⟨g1, 0, none⟩) from t6) hr [.int .u64 a, .int .u64 b, .int .i64 c, .int .i64 d] rfl _ Try.underlying60 rfl (by kernel_rfl)) ⟨_, rfl, tab_put rfl hs rfl rfl, hS.same 0 rfl⟩
    ·
     have hr := hS.rowNi 1 rfl
     exact wpOp_val (v := .agg #[.int .u64 p, .int .u64 q, .int .i64 r, .int .i64 t]) (w' := wx) rfl rfl (exec_loadR 60 _ rfl g2 0 (show ax.eval (.tmp 7) = .pointer (some ⟨g2, 0, none⟩) from t7) hr [.int .u64 p, .int .u64 q, .int .i64 r, .int .i64 t] rfl _ Try.underlying60 rfl (by kernel_rfl)) ⟨_, rfl, tab_put rfl hs rfl rfl, hS.same 1 rfl⟩
    ·
     have s90 : ax.tmps.getD 90 undef = .agg #[.int .u64 a, .int .u64 b, .int .i64 c, .int .i64 d] := (hdone 0 _ rfl rfl).2 _ rfl
     have s91 : ax.tmps.getD 91 undef = .agg #[.int .u64 p, .int .u64 q, .int .i64 r, .int .i64 t] := (hdone 1 _ rfl rfl).2 _ rfl
     refine wpOp_call (args := #[.agg #[.int .u64 a, .int .u64 b, .int .i64 c, .int .i64 d], .agg #[.int .u64 p, .int .u64 q, .int .i64 r, .int .i64 t]]) rfl rfl (exec_call rfl rfl rfl (args2 (show ax.eval (.tmp 90) = .agg #[.int .u64 a, .int .u64 b, .int .i64 c, .int .i64 d] from s90) (show ax.eval (.tmp 91) = .agg #[.int .u64 p, .int .u64 q, .int .i64 r, .int .i64 t] from s91)) Try.func22 (by decide +kernel) rfl) ?_
     · refine (meet_n a b c d p q r t wx HA.out HB.out).mono ?_
       rintro e w' ⟨rfl, b9⟩
       exact ⟨_, rfl, _, rfl, tab_put rfl hs rfl rfl, hS.quiet 2 rfl b9⟩
    ·
     have s92 : ax.tmps.getD 92 undef = .tuple #[.agg #[.int .u64 ((Rg.meetR ⟨⟨a, b⟩, ⟨c, d⟩⟩ ⟨⟨p, q⟩, ⟨r, t⟩⟩).u.lo), .int .u64 ((Rg.meetR ⟨⟨a, b⟩, ⟨c, d⟩⟩ ⟨⟨p, q⟩, ⟨r, t⟩⟩).u.hi), .int .i64 ((Rg.meetR ⟨⟨a, b⟩, ⟨c, d⟩⟩ ⟨⟨p, q⟩, ⟨r, t⟩⟩).s.lo), .int .i64 ((Rg.meetR ⟨⟨a, b⟩, ⟨c, d⟩⟩ ⟨⟨p, q⟩, ⟨r, t⟩⟩).s.hi)], .bool (Rg.meetB ⟨⟨a, b⟩, ⟨c, d⟩⟩ ⟨⟨p, q⟩, ⟨r, t⟩⟩)] := (hdone 0 _ rfl rfl).2 _ rfl
     exact wpOp_val (v := .tuple #[.agg #[.int .u64 ((Rg.meetR ⟨⟨a, b⟩, ⟨c, d⟩⟩ ⟨⟨p, q⟩, ⟨r, t⟩⟩).u.lo), .int .u64 ((Rg.meetR ⟨⟨a, b⟩, ⟨c, d⟩⟩ ⟨⟨p, q⟩, ⟨r, t⟩⟩).u.hi), .int .i64 ((Rg.meetR ⟨⟨a, b⟩, ⟨c, d⟩⟩ ⟨⟨p, q⟩, ⟨r, t⟩⟩).s.lo), .int .i64 ((Rg.meetR ⟨⟨a, b⟩, ⟨c, d⟩⟩ ⟨⟨p, q⟩, ⟨r, t⟩⟩).s.hi)], .bool (Rg.meetB ⟨⟨a, b⟩, ⟨c, d⟩⟩ ⟨⟨p, q⟩, ⟨r, t⟩⟩)]) (w' := wx) rfl rfl (by (revert s92; generalize (.tuple #[.agg #[.int .u64 ((Rg.meetR ⟨⟨a, b⟩, ⟨c, d⟩⟩ ⟨⟨p, q⟩, ⟨r, t⟩⟩).u.lo), .int .u64 ((Rg.meetR ⟨⟨a, b⟩, ⟨c, d⟩⟩ ⟨⟨p, q⟩, ⟨r, t⟩⟩).u.hi), .int .i64 ((Rg.meetR ⟨⟨a, b⟩, ⟨c, d⟩⟩ ⟨⟨p, q⟩, ⟨r, t⟩⟩).s.lo), .int .i64 ((Rg.meetR ⟨⟨a, b⟩, ⟨c, d⟩⟩ ⟨⟨p, q⟩, ⟨r, t⟩⟩).s.hi)], .bool (Rg.meetB ⟨⟨a, b⟩, ⟨c, d⟩⟩ ⟨⟨p, q⟩, ⟨r, t⟩⟩)] : Value) = y0; intro s92); simp [execOp, Act.eval, s92]) ⟨_, rfl, tab_put rfl hs rfl rfl, hS.same 3 rfl⟩
    ·
     have s89 : ax.tmps.getD 89 undef = .tuple #[.agg #[.int .u64 ((Rg.meetR ⟨⟨a, b⟩, ⟨c, d⟩⟩ ⟨⟨p, q⟩, ⟨r, t⟩⟩).u.lo), .int .u64 ((Rg.meetR ⟨⟨a, b⟩, ⟨c, d⟩⟩ ⟨⟨p, q⟩, ⟨r, t⟩⟩).u.hi), .int .i64 ((Rg.meetR ⟨⟨a, b⟩, ⟨c, d⟩⟩ ⟨⟨p, q⟩, ⟨r, t⟩⟩).s.lo), .int .i64 ((Rg.meetR ⟨⟨a, b⟩, ⟨c, d⟩⟩ ⟨⟨p, q⟩, ⟨r, t⟩⟩).s.hi)], .bool (Rg.meetB ⟨⟨a, b⟩, ⟨c, d⟩⟩ ⟨⟨p, q⟩, ⟨r, t⟩⟩)] := (hdone 0 _ rfl rfl).2 _ rfl
     exact wpOp_val (v := .agg #[.int .u64 ((Rg.meetR ⟨⟨a, b⟩, ⟨c, d⟩⟩ ⟨⟨p, q⟩, ⟨r, t⟩⟩).u.lo), .int .u64 ((Rg.meetR ⟨⟨a, b⟩, ⟨c, d⟩⟩ ⟨⟨p, q⟩, ⟨r, t⟩⟩).u.hi), .int .i64 ((Rg.meetR ⟨⟨a, b⟩, ⟨c, d⟩⟩ ⟨⟨p, q⟩, ⟨r, t⟩⟩).s.lo), .int .i64 ((Rg.meetR ⟨⟨a, b⟩, ⟨c, d⟩⟩ ⟨⟨p, q⟩, ⟨r, t⟩⟩).s.hi)]) (w' := wx) rfl rfl (by simp [execOp, Act.eval, s89, go_sem]) ⟨_, rfl, tab_put rfl hs rfl rfl, hS.same 4 rfl⟩
    ·
     have s89 : ax.tmps.getD 89 undef = .tuple #[.agg #[.int .u64 ((Rg.meetR ⟨⟨a, b⟩, ⟨c, d⟩⟩ ⟨⟨p, q⟩, ⟨r, t⟩⟩).u.lo), .int .u64 ((Rg.meetR ⟨⟨a, b⟩, ⟨c, d⟩⟩ ⟨⟨p, q⟩, ⟨r, t⟩⟩).u.hi), .int .i64 ((Rg.meetR ⟨⟨a, b⟩, ⟨c, d⟩⟩ ⟨⟨p, q⟩, ⟨r, t⟩⟩).s.lo), .int .i64 ((Rg.meetR ⟨⟨a, b⟩, ⟨c, d⟩⟩ ⟨⟨p, q⟩, ⟨r, t⟩⟩).s.hi)], .bool (Rg.meetB ⟨⟨a, b⟩, ⟨c, d⟩⟩ ⟨⟨p, q⟩, ⟨r, t⟩⟩)] := (hdone 0 _ rfl rfl).2 _ rfl
     exact wpOp_val (v := .bool (Rg.meetB ⟨⟨a, b⟩, ⟨c, d⟩⟩ ⟨⟨p, q⟩, ⟨r, t⟩⟩)) (w' := wx) rfl rfl (by simp [execOp, Act.eval, s89, go_sem]) ⟨_, rfl, tab_put rfl hs rfl (congrArg Value.bool Ffk6.out), hS.same 5 rfl⟩
    ·
     refine wpOp_val (v := .pointer (some ⟨wx.heap.size, 0, none⟩)) (w' := wx.alloc (.cells #[.int .u64 0, .int .u64 0, .int .i64 0, .int .i64 0] 60)) rfl rfl ?_ ⟨_, rfl, trivial, hS.alloc 6 15 60 #[.int .u64 0, .int .u64 0, .int .i64 0, .int .i64 0] [] [] (some 7) #[.int .u64 ((Rg.meetR ⟨⟨a, b⟩, ⟨c, d⟩⟩ ⟨⟨p, q⟩, ⟨r, t⟩⟩).u.lo), .int .u64 ((Rg.meetR ⟨⟨a, b⟩, ⟨c, d⟩⟩ ⟨⟨p, q⟩, ⟨r, t⟩⟩).u.hi), .int .i64 ((Rg.meetR ⟨⟨a, b⟩, ⟨c, d⟩⟩ ⟨⟨p, q⟩, ⟨r, t⟩⟩).s.lo), .int .i64 ((Rg.meetR ⟨⟨a, b⟩, ⟨c, d⟩⟩ ⟨⟨p, q⟩, ⟨r, t⟩⟩).s.hi)] rfl rfl rfl (by rw [hs]; omega) (not_yet clo hfi (by kernel_rfl))⟩
     · simp [execOp, Act.eval, go_sem]
    ·
     have hd15 := (hdone 0 _ rfl rfl).1
     obtain ⟨g4, s15, n15, r15⟩ := SX.rowA hS [] [] 6 15 60 _ _ 7 rfl hd15 hfi
     have s15 : ax.tmps.getD 15 undef = .pointer (some ⟨g4, 0, none⟩) := s15
     have s93 : ax.tmps.getD 93 undef = .agg #[.int .u64 ((Rg.meetR ⟨⟨a, b⟩, ⟨c, d⟩⟩ ⟨⟨p, q⟩, ⟨r, t⟩⟩).u.lo), .int .u64 ((Rg.meetR ⟨⟨a, b⟩, ⟨c, d⟩⟩ ⟨⟨p, q⟩, ⟨r, t⟩⟩).u.hi), .int .i64 ((Rg.meetR ⟨⟨a, b⟩, ⟨c, d⟩⟩ ⟨⟨p, q⟩, ⟨r, t⟩⟩).s.lo), .int .i64 ((Rg.meetR ⟨⟨a, b⟩, ⟨c, d⟩⟩ ⟨⟨p, q⟩, ⟨r, t⟩⟩).s.hi)] := (hdone 1 _ rfl rfl).2 _ rfl
     have hr : wx.heap[g4]? = some (.cells #[.int .u64 0, .int .u64 0, .int .i64 0, .int .i64 0] 60 (0, 0)) := r15
     exact wpOp_skp (w' := wx.setRow g4 #[.int .u64 ((Rg.meetR ⟨⟨a, b⟩, ⟨c, d⟩⟩ ⟨⟨p, q⟩, ⟨r, t⟩⟩).u.lo), .int .u64 ((Rg.meetR ⟨⟨a, b⟩, ⟨c, d⟩⟩ ⟨⟨p, q⟩, ⟨r, t⟩⟩).u.hi), .int .i64 ((Rg.meetR ⟨⟨a, b⟩, ⟨c, d⟩⟩ ⟨⟨p, q⟩, ⟨r, t⟩⟩).s.lo), .int .i64 ((Rg.meetR ⟨⟨a, b⟩, ⟨c, d⟩⟩ ⟨⟨p, q⟩, ⟨r, t⟩⟩).s.hi)]) rfl rfl (exec_storeR 60 _ _ rfl g4 #[.int .u64 ((Rg.meetR ⟨⟨a, b⟩, ⟨c, d⟩⟩ ⟨⟨p, q⟩, ⟨r, t⟩⟩).u.lo), .int .u64 ((Rg.meetR ⟨⟨a, b⟩, ⟨c, d⟩⟩ ⟨⟨p, q⟩, ⟨r, t⟩⟩).u.hi), .int .i64 ((Rg.meetR ⟨⟨a, b⟩, ⟨c, d⟩⟩ ⟨⟨p, q⟩, ⟨r, t⟩⟩).s.lo), .int .i64 ((Rg.meetR ⟨⟨a, b⟩, ⟨c, d⟩⟩ ⟨⟨p, q⟩, ⟨r, t⟩⟩).s.hi)] (show ax.eval (.tmp 15) = .pointer (some ⟨g4, 0, none⟩) from s15) (show ax.eval (.tmp 93) = .agg #[.int .u64 ((Rg.meetR ⟨⟨a, b⟩, ⟨c, d⟩⟩ ⟨⟨p, q⟩, ⟨r, t⟩⟩).u.lo), .int .u64 ((Rg.meetR ⟨⟨a, b⟩, ⟨c, d⟩⟩ ⟨⟨p, q⟩, ⟨r, t⟩⟩).u.hi), .int .i64 ((Rg.meetR ⟨⟨a, b⟩, ⟨c, d⟩⟩ ⟨⟨p, q⟩, ⟨r, t⟩⟩).s.lo), .int .i64 ((Rg.meetR ⟨⟨a, b⟩, ⟨c, d⟩⟩ ⟨⟨p, q⟩, ⟨r, t⟩⟩).s.hi)] from s93) hr (by kernel_rfl) rfl (by simp [Value.oneCell'])) ⟨undef, rfl, trivial, hS.storeA 7 6 15 60 #[.int .u64 0, .int .u64 0, .int .i64 0, .int .i64 0] #[.int .u64 ((Rg.meetR ⟨⟨a, b⟩, ⟨c, d⟩⟩ ⟨⟨p, q⟩, ⟨r, t⟩⟩).u.lo), .int .u64 ((Rg.meetR ⟨⟨a, b⟩, ⟨c, d⟩⟩ ⟨⟨p, q⟩, ⟨r, t⟩⟩).u.hi), .int .i64 ((Rg.meetR ⟨⟨a, b⟩, ⟨c, d⟩⟩ ⟨⟨p, q⟩, ⟨r, t⟩⟩).s.lo), .int .i64 ((Rg.meetR ⟨⟨a, b⟩, ⟨c, d⟩⟩ ⟨⟨p, q⟩, ⟨r, t⟩⟩).s.hi)] [] [] rfl B6.size hd15 g4 s15 (by decide) rfl (stored_setRow wx g4 _ _ _ hr)⟩
    ·
     have s94 : ax.tmps.getD 94 undef = .bool true := (hdone 0 _ rfl rfl).2 _ rfl
     exact wpOp_val (v := .bool true) (w' := wx) rfl rfl (by simp [execOp, Act.eval, s94]) ⟨_, rfl, tab_put rfl hs rfl rfl, hS.same 8 rfl⟩
  intro a7 w7 fl d7 z7 rest7 R7 hfl hS
  obtain ⟨B7, n7, hBs, hAs, hPs⟩ := hS.finish hfl rfl
  replace d7 := d7.trans d6
  replace z7 := z7.trans z6
  obtain ⟨⟨-, b_g1_7⟩, ⟨-, b_g2_7⟩, ⟨-, b_g3_7⟩, -⟩ := hBs
  obtain ⟨⟨g4, u_g4, q_g4, b_g4_7⟩, -⟩ := hAs
  replace u_g4 : a7.tmps.getD 15 undef = .pointer (some ⟨g4, 0, none⟩) := u_g4
  have m_g4 : w6.heap.size ≤ g4 := q_g4
  replace q_g4 : W.heap.size ≤ g4 := Nat.le_trans B6.size q_g4
  have s4_7 := (rest7 4 (not_of (by kernel_rfl))).trans s4_6
  have s6_7 := (rest7 6 (not_of (by kernel_rfl))).trans s6_6
  have s10_7 := (rest7 10 (not_of (by kernel_rfl))).trans s10_6
  have s16_7 : a7.tmps.getD 16 undef = .bool true := R7 8 _ rfl
  clear R7 rest7 hS hfl hPs
  clear s4_6 s6_6 s7_6 s10_6 s88_6 b_g1_6 b_g2_6 b_g3_6 d6 z6
  refine wp_seq ?_
  cases fk7 : Rg.hasB ⟨⟨a, b⟩, ⟨c, d⟩⟩ u
  case false =>
   have Ffk7 := Lib.hid fk7; clear fk7
   refine wp_regx (SX W w7.heap.size [⟨g1, 60, (cR a b c d), none, #[]⟩, ⟨g2, 60, (cR p q r t), none, #[]⟩, ⟨g3, 60, (cR ((Rg.nar ⟨⟨a, b⟩, ⟨c, d⟩⟩).u.lo) ((Rg.nar ⟨⟨a, b⟩, ⟨c, d⟩⟩).u.hi) ((Rg.nar ⟨⟨a, b⟩, ⟨c, d⟩⟩).s.lo) ((Rg.nar ⟨⟨a, b⟩, ⟨c, d⟩⟩).s.hi)), none, #[]⟩, ⟨g4, 60, (cR ((Rg.meetR ⟨⟨a, b⟩, ⟨c, d⟩⟩ ⟨⟨p, q⟩, ⟨r, t⟩⟩).u.lo) ((Rg.meetR ⟨⟨a, b⟩, ⟨c, d⟩⟩ ⟨⟨p, q⟩, ⟨r, t⟩⟩).u.hi) ((Rg.meetR ⟨⟨a, b⟩, ⟨c, d⟩⟩ ⟨⟨p, q⟩, ⟨r, t⟩⟩).s.lo) ((Rg.meetR ⟨⟨a, b⟩, ⟨c, d⟩⟩ ⟨⟨p, q⟩, ⟨r, t⟩⟩).s.hi)), none, #[]⟩] []) (TabX [fun vx => vx = .agg #[.int .u64 a, .int .u64 b, .int .i64 c, .int .i64 d], fun vx => vx = .int .u64 u, fun vx => vx = .bool false, fun vx => vx = .bool true, fun vx => vx = .bool true, fun vx => vx = .agg #[.int .u64 ((Rg.meetR ⟨⟨a, b⟩, ⟨c, d⟩⟩ ⟨⟨p, q⟩, ⟨r, t⟩⟩).u.lo), .int .u64 ((Rg.meetR ⟨⟨a, b⟩, ⟨c, d⟩⟩ ⟨⟨p, q⟩, ⟨r, t⟩⟩).u.hi), .int .i64 ((Rg.meetR ⟨⟨a, b⟩, ⟨c, d⟩⟩ ⟨⟨p, q⟩, ⟨r, t⟩⟩).s.lo), .int .i64 ((Rg.meetR ⟨⟨a, b⟩, ⟨c, d⟩⟩ ⟨⟨p, q⟩, ⟨r, t⟩⟩).s.hi)], fun vx => vx = .int .u64 u, fun vx => vx = .bool false, fun vx => vx = .bool false, fun vx => vx = .bool true, fun vx => vx = .bool true, fun vx => vx = .bool true, fun vx => vx = .bool true, fun vx => vx = .bool true]) (by kernel_rfl) (back_of (by kernel_rfl)) (dst_of (by kernel_rfl)) (in_ofz (by kernel_rfl) z7) (fun fl w1 hfl hw => SX.start' hw B7 hfl rfl ⟨b_g1_7, b_g2_7, b_g3_7, b_g4_7, trivial⟩) ?h20 ?_
   case h20 =>
     intro ix ox ax wx fl ho hS hfi clo hsz hrest hdone hund
     have t4 := (hrest 4 (not_of (by kernel_rfl))).trans s4_7
     have t6 := (hrest 6 (not_of (by kernel_rfl))).trans s6_7
     have t15 := (hrest 15 (not_of (by kernel_rfl))).trans u_g4
     have t16 := (hrest 16 (not_of (by kernel_rfl))).trans s16_7
     have hs : ax.tmps.size = 108 := hsz.trans z7
     have hi : ix < 14 := (Array.getElem?_eq_some_iff.1 ho).1
     clear hrest hsz hund
     obtain rfl | rfl | rfl | rfl | rfl | rfl | rfl | rfl | rfl | rfl | rfl | rfl | rfl | rfl : ix = 0 ∨ ix = 1 ∨ ix = 2 ∨ ix = 3 ∨ ix = 4 ∨ ix = 5 ∨ ix = 6 ∨ ix = 7 ∨ ix = 8 ∨ ix = 9 ∨ ix = 10 ∨ ix = 11 ∨ ix = 12 ∨ ix = 13 := by omega
     all_goals obtain rfl := Option.some.inj (show some _ = some ox from ho)
     ·
      have hr := hS.rowNi 0 rfl
      exact wpOp_val (v := .agg #[.int .u64 a, .int .u64 b, .int .i64 c, .int .i64 d]) (w' := wx) rfl rfl (exec_loadR 60 _ rfl g1 0 (show ax.eval (.tmp 6) = .pointer (some ⟨g1, 0, none⟩) from t6) hr [.int .u64 a, .int .u64 b, .int .i64 c, .int .i64 d] rfl _ Try.underlying60 rfl (by kernel_rfl)) ⟨_, rfl, tab_put rfl hs rfl rfl, hS.same 0 rfl⟩
     ·
      exact wpOp_val (v := .int .u64 u) (w' := wx) rfl rfl (by simp [execOp, Act.eval, t4]) ⟨_, rfl, tab_put rfl hs rfl rfl, hS.same 1 rfl⟩
     ·
      have s95 : ax.tmps.getD 95 undef = .agg #[.int .u64 a, .int .u64 b, .int .i64 c, .int .i64 d] := (hdone 0 _ rfl rfl).2 _ rfl
      have s96 : ax.tmps.getD 96 undef = .int .u64 u := (hdone 1 _ rfl rfl).2 _ rfl
      refine wpOp_call (args := #[.agg #[.int .u64 a, .int .u64 b, .int .i64 c, .int .i64 d], .int .u64 u]) rfl rfl (exec_call rfl rfl rfl (args2 (show ax.eval (.tmp 95) = .agg #[.int .u64 a, .int .u64 b, .int .i64 c, .int .i64 d] from s95) (show ax.eval (.tmp 96) = .int .u64 u from s96)) Try.func36 (by decide +kernel) rfl) ?_
      · refine (has_n a b c d u wx).mono ?_
        rintro e w' ⟨rfl, b9⟩
        exact ⟨_, rfl, _, rfl, tab_put rfl hs rfl (congrArg Value.bool Ffk7.out), hS.quiet 2 rfl b9⟩
     ·
      exact wpOp_val (v := .bool true) (w' := wx) rfl rfl (by simp [execOp, Act.eval, t16]) ⟨_, rfl, tab_put rfl hs rfl rfl, hS.same 3 rfl⟩
     ·
      have s98 : ax.tmps.getD 98 undef = .bool true := (hdone 0 _ rfl rfl).2 _ rfl
      exact wpOp_val (v := .bool true) (w' := wx) rfl rfl (by simp [execOp, Act.eval, s98]) ⟨_, rfl, tab_put rfl hs rfl rfl, hS.same 4 rfl⟩
     ·
      have hg : ax.tmps.getD 99 undef = .bool true := (hdone 0 _ rfl rfl).2 _ rfl
      have hr := hS.rowNi 3 rfl
      exact wpOp_valw (v := .agg #[.int .u64 ((Rg.meetR ⟨⟨a, b⟩, ⟨c, d⟩⟩ ⟨⟨p, q⟩, ⟨r, t⟩⟩).u.lo), .int .u64 ((Rg.meetR ⟨⟨a, b⟩, ⟨c, d⟩⟩ ⟨⟨p, q⟩, ⟨r, t⟩⟩).u.hi), .int .i64 ((Rg.meetR ⟨⟨a, b⟩, ⟨c, d⟩⟩ ⟨⟨p, q⟩, ⟨r, t⟩⟩).s.lo), .int .i64 ((Rg.meetR ⟨⟨a, b⟩, ⟨c, d⟩⟩ ⟨⟨p, q⟩, ⟨r, t⟩⟩).s.hi)]) (w' := wx) rfl (wanted_yes 4 99 true hg (by rw [hs]; omega) rfl rfl rfl rfl) (exec_loadR 60 _ rfl g4 0 (show ax.eval (.tmp 15) = .pointer (some ⟨g4, 0, none⟩) from t15) hr [.int .u64 ((Rg.meetR ⟨⟨a, b⟩, ⟨c, d⟩⟩ ⟨⟨p, q⟩, ⟨r, t⟩⟩).u.lo), .int .u64 ((Rg.meetR ⟨⟨a, b⟩, ⟨c, d⟩⟩ ⟨⟨p, q⟩, ⟨r, t⟩⟩).u.hi), .int .i64 ((Rg.meetR ⟨⟨a, b⟩, ⟨c, d⟩⟩ ⟨⟨p, q⟩, ⟨r, t⟩⟩).s.lo), .int .i64 ((Rg.meetR ⟨⟨a, b⟩, ⟨c, d⟩⟩ ⟨⟨p, q⟩, ⟨r, t⟩⟩).s.hi)] rfl _ Try.underlying60 rfl (by kernel_rfl)) ⟨_, rfl, tab_put rfl hs rfl rfl, hS.same 5 rfl⟩
     ·
      have hg : ax.tmps.getD 99 undef = .bool true := (hdone 0 _ rfl rfl).2 _ rfl
      exact wpOp_valw (v := .int .u64 u) (w' := wx) rfl (wanted_yes 4 99 true hg (by rw [hs]; omega) rfl rfl rfl rfl) (by simp [execOp, Act.eval, t4]) ⟨_, rfl, tab_put rfl hs rfl rfl, hS.same 6 rfl⟩
     ·
      have hg : ax.tmps.getD 99 undef = .bool true := (hdone 2 _ rfl rfl).2 _ rfl
      have s100 : ax.tmps.getD 100 undef = .agg #[.int .u64 ((Rg.meetR ⟨⟨a, b⟩, ⟨c, d⟩⟩ ⟨⟨p, q⟩, ⟨r, t⟩⟩).u.lo), .int .u64 ((Rg.meetR ⟨⟨a, b⟩, ⟨c, d⟩⟩ ⟨⟨p, q⟩, ⟨r, t⟩⟩).u.hi), .int .i64 ((Rg.meetR ⟨⟨a, b⟩, ⟨c, d⟩⟩ ⟨⟨p, q⟩, ⟨r, t⟩⟩).s.lo), .int .i64 ((Rg.meetR ⟨⟨a, b⟩, ⟨c, d⟩⟩ ⟨⟨p, q⟩, ⟨r, t⟩⟩).s.hi)] := (hdone 0 _ rfl rfl).2 _ rfl
      have s101 : ax.tmps.getD 101 undef = .int .u64 u := (hdone 1 _ rfl rfl).2 _ rfl
      refine wpOp_callw (args := #[.agg #[.int .u64 ((Rg.meetR ⟨⟨a, b⟩, ⟨c, d⟩⟩ ⟨⟨p, q⟩, ⟨r, t⟩⟩).u.lo), .int .u64 ((Rg.meetR ⟨⟨a, b⟩, ⟨c, d⟩⟩ ⟨⟨p, q⟩, ⟨r, t⟩⟩).u.hi), .int .i64 ((Rg.meetR ⟨⟨a, b⟩, ⟨c, d⟩⟩ ⟨⟨p, q⟩, ⟨r, t⟩⟩).s.lo), .int .i64 ((Rg.meetR ⟨⟨a, b⟩, ⟨c, d⟩⟩ ⟨⟨p, q⟩, ⟨r, t⟩⟩).s.hi)], .int .u64 u]) rfl (wanted_yes 4 99 true hg (by rw [hs]; omega) rfl rfl rfl rfl) (exec_call rfl rfl rfl (args2 (show ax.eval (.tmp 100) = .agg #[.int .u64 ((Rg.meetR ⟨⟨a, b⟩, ⟨c, d⟩⟩ ⟨⟨p, q⟩, ⟨r, t⟩⟩).u.lo), .int .u64 ((Rg.meetR ⟨⟨a, b⟩, ⟨c, d⟩⟩ ⟨⟨p, q⟩, ⟨r, t⟩⟩).u.hi), .int .i64 ((Rg.meetR ⟨⟨a, b⟩, ⟨c, d⟩⟩ ⟨⟨p, q⟩, ⟨r, t⟩⟩).s.lo), .int .i64 ((Rg.meetR ⟨⟨a, b⟩, ⟨c, d⟩⟩ ⟨⟨p, q⟩, ⟨r, t⟩⟩).s.hi)] from s100) (show ax.eval (.tmp 101) = .int .u64 u from s101)) Try.func36 (by decide +kernel) rfl) ?_
      · refine (has_n ((Rg.meetR ⟨⟨a, b⟩, ⟨c, d⟩⟩ ⟨⟨p, q⟩, ⟨r, t⟩⟩).u.lo) ((Rg.meetR ⟨⟨a, b⟩, ⟨c, d⟩⟩ ⟨⟨p, q⟩, ⟨r, t⟩⟩).u.hi) ((Rg.meetR ⟨⟨a, b⟩, ⟨c, d⟩⟩ ⟨⟨p, q⟩, ⟨r, t⟩⟩).s.lo) ((Rg.meetR ⟨⟨a, b⟩, ⟨c, d⟩⟩ ⟨⟨p, q⟩, ⟨r, t⟩⟩).s.hi) u wx).mono ?_
        rintro e w' ⟨rfl, b9⟩
        exact ⟨_, rfl, _, rfl, tab_put rfl hs rfl (congrArg Value.bool ((KM1.out Ffk1.out Ffk2.out Ffk6.out).trans Ffk7.out)), hS.quiet 7 rfl b9⟩
     ·
      have s99 : ax.tmps.getD 99 undef = .bool true := (hdone 0 _ rfl rfl).2 _ rfl
      have s102 : ax.tmps.getD 102 undef = .bool false := (hdone 1 _ rfl rfl).2 _ rfl
      exact wpOp_val (v := .bool false) (w' := wx) rfl rfl (by simp [execOp, Act.eval, s99, s102, go_sem]) ⟨_, rfl, tab_put rfl hs rfl rfl, hS.same 8 rfl⟩
     ·
      have s97 : ax.tmps.getD 97 undef = .bool false := (hdone 0 _ rfl rfl).2 _ rfl
      have s103 : ax.tmps.getD 103 undef = .bool false := (hdone 1 _ rfl rfl).2 _ rfl
      exact wpOp_val (v := .bool true) (w' := wx) rfl rfl (by (simp [execOp, Act.eval, s97, s103, go_sem]; try (simp only [IntKind.wrap_i64, wrap64]))) ⟨_, rfl, tab_put rfl hs rfl rfl, hS.same 9 rfl⟩
     ·
      have s104 : ax.tmps.getD 104 undef = .bool true := (hdone 0 _ rfl rfl).2 _ rfl
      exact wpOp_val (v := .bool true) (w' := wx) rfl rfl (by simp [execOp, Act.eval, s104]) ⟨_, rfl, tab_put rfl hs rfl rfl, hS.same 10 rfl⟩
     ·
      have hg : ax.tmps.getD 105 undef = .bool true := (hdone 0 _ rfl rfl).2 _ rfl
      refine wpOp_callw (args := #[]) rfl (wanted_yes 10 105 true hg (by rw [hs]; omega) rfl rfl rfl rfl) (exec_call rfl rfl rfl (args0 ) Try.func46 (by decide +kernel) rfl) ?_
      · refine (wakes_n wx).mono ?_
        rintro e w' ⟨rfl, b9⟩
        exact ⟨_, rfl, _, rfl, tab_put rfl hs rfl rfl, hS.quiet 11 rfl b9⟩
     ·
      have s105 : ax.tmps.getD 105 undef = .bool true := (hdone 0 _ rfl rfl).2 _ rfl
      have s106 : ax.tmps.getD 106 undef = .bool true := (hdone 1 _ rfl rfl).2 _ rfl
      exact wpOp_val (v := .bool true) (w' := wx) rfl rfl (by simp [execOp, Act.eval, s105, s106, go_sem]) ⟨_, rfl, tab_put rfl hs rfl rfl, hS.same 12 rfl⟩
     ·
      have s107 : ax.tmps.getD 107 undef = .bool true := (hdone 0 _ rfl rfl).2 _ rfl
      exact wpOp_val (v := .bool true) (w' := wx) rfl rfl (by simp [execOp, Act.eval, s107]) ⟨_, rfl, tab_put rfl hs rfl rfl, hS.same 13 rfl⟩
   intro a8 w8 fl d8 z8 rest8 R8 hfl hS
   obtain ⟨B8, n8, hBs, hAs, hPs⟩ := hS.finish hfl rfl
   replace d8 := d8.trans d7
   replace z8 := z8.trans z7
   obtain ⟨⟨-, b_g1_8⟩, ⟨-, b_g2_8⟩, ⟨-, b_g3_8⟩, ⟨l_g4_8, b_g4_8⟩, -⟩ := hBs
   replace l_g4_8 : g4 < w7.heap.size := l_g4_8
   have s10_8 : a8.tmps.getD 10 undef = .bool true := R8 13 _ rfl
   clear R8 rest8 hS hfl hPs hAs
   clear u_g4 s4_7 s6_7 s10_7 s16_7 b_g1_7 b_g2_7 b_g3_7 b_g4_7 d7 z7
   refine wp_ret ?_
   try simp only [Exit.inBlock, Exit.then]
   refine bodyPost_ret (res_t (fn := Try.f8) rfl s10_8) d8 ?_
   exact ⟨rfl, B8⟩
  have Ffk7 := Lib.hid fk7; clear fk7
  refine wp_regx (SX W w7.heap.size [⟨g1, 60, (cR a b c d), none, #[]⟩, ⟨g2, 60, (cR p q r t), none, #[]⟩, ⟨g3, 60, (cR ((Rg.nar ⟨⟨a, b⟩, ⟨c, d⟩⟩).u.lo) ((Rg.nar ⟨⟨a, b⟩, ⟨c, d⟩⟩).u.hi) ((Rg.nar ⟨⟨a, b⟩, ⟨c, d⟩⟩).s.lo) ((Rg.nar ⟨⟨a, b⟩, ⟨c, d⟩⟩).s.hi)), none, #[]⟩, ⟨g4, 60, (cR ((Rg.meetR ⟨⟨a, b⟩, ⟨c, d⟩⟩ ⟨⟨p, q⟩, ⟨r, t⟩⟩).u.lo) ((Rg.meetR ⟨⟨a, b⟩, ⟨c, d⟩⟩ ⟨⟨p, q⟩, ⟨r, t⟩⟩).u.hi) ((Rg.meetR ⟨⟨a, b⟩, ⟨c, d⟩⟩ ⟨⟨p, q⟩, ⟨r, t⟩⟩).s.lo) ((Rg.meetR ⟨⟨a, b⟩, ⟨c, d⟩⟩ ⟨⟨p, q⟩, ⟨r, t⟩⟩).s.hi)), none, #[]⟩] []) (TabX [fun vx => vx = .agg #[.int .u64 a, .int .u64 b, .int .i64 c, .int .i64 d], fun vx => vx = .int .u64 u, fun vx => vx = .bool true, fun vx => vx = .bool true, fun vx => vx = .bool true, fun vx => vx = .agg #[.int .u64 ((Rg.meetR ⟨⟨a, b⟩, ⟨c, d⟩⟩ ⟨⟨p, q⟩, ⟨r, t⟩⟩).u.lo), .int .u64 ((Rg.meetR ⟨⟨a, b⟩, ⟨c, d⟩⟩ ⟨⟨p, q⟩, ⟨r, t⟩⟩).u.hi), .int .i64 ((Rg.meetR ⟨⟨a, b⟩, ⟨c, d⟩⟩ ⟨⟨p, q⟩, ⟨r, t⟩⟩).s.lo), .int .i64 ((Rg.meetR ⟨⟨a, b⟩, ⟨c, d⟩⟩ ⟨⟨p, q⟩, ⟨r, t⟩⟩).s.hi)], fun vx => vx = .int .u64 u, fun vx => vx = .bool true, fun vx => vx = .bool true, fun vx => vx = .bool true, fun vx => vx = .bool true, fun vx => vx = .bool true, fun vx => vx = .bool true, fun vx => vx = .bool true]) (by kernel_rfl) (back_of (by kernel_rfl)) (dst_of (by kernel_rfl)) (in_ofz (by kernel_rfl) z7) (fun fl w1 hfl hw => SX.start' hw B7 hfl rfl ⟨b_g1_7, b_g2_7, b_g3_7, b_g4_7, trivial⟩) ?h21 ?_
  case h21 =>
    intro ix ox ax wx fl ho hS hfi clo hsz hrest hdone hund
    have t4 := (hrest 4 (not_of (by kernel_rfl))).trans s4_7
    have t6 := (hrest 6 (not_of (by kernel_rfl))).trans s6_7
    have t15 := (hrest 15 (not_of (by kernel_rfl))).trans u_g4
    have t16 := (hrest 16 (not_of (by kernel_rfl))).trans s16_7
    have hs : ax.tmps.size = 108 := hsz.trans z7
    have hi : ix < 14 := (Array.getElem?_eq_some_iff.1 ho).1
    clear hrest hsz hund
    obtain rfl | rfl | rfl | rfl | rfl | rfl | rfl | rfl | rfl | rfl | rfl | rfl | rfl | rfl : ix = 0 ∨ ix = 1 ∨ ix = 2 ∨ ix = 3 ∨ ix = 4 ∨ ix = 5 ∨ ix = 6 ∨ ix = 7 ∨ ix = 8 ∨ ix = 9 ∨ ix = 10 ∨ ix = 11 ∨ ix = 12 ∨ ix = 13 := by omega
    all_goals obtain rfl := Option.some.inj (show some _ = some ox from ho)
    ·
     have hr := hS.rowNi 0 rfl
     exact wpOp_val (v := .agg #[.int .u64 a, .int .u64 b, .int .i64 c, .int .i64 d]) (w' := wx) rfl rfl (exec_loadR 60 _ rfl g1 0 (show ax.eval (.tmp 6) = .pointer (some ⟨g1, 0, none⟩) from t6) hr [.int .u64 a, .int .u64 b, .int .i64 c, .int .i64 d] rfl _ Try.underlying60 rfl (by kernel_rfl)) ⟨_, rfl, tab_put rfl hs rfl rfl, hS.same 0 rfl⟩
    ·
     exact wpOp_val (v := .int .u64 u) (w' := wx) rfl rfl (by simp [execOp, Act.eval, t4]) ⟨_, rfl, tab_put rfl hs rfl rfl, hS.same 1 rfl⟩
    ·
     have s95 : ax.tmps.getD 95 undef = .agg #[.int .u64 a, .int .u64 b, .int .i64 c, .int .i64 d] := (hdone 0 _ rfl rfl).2 _ rfl
     have s96 : ax.tmps.getD 96 undef = .int .u64 u := (hdone 1 _ rfl rfl).2 _ rfl
     refine wpOp_call (args := #[.agg #[.int .u64 a, .int .u64 b, .int .i64 c, .int .i64 d], .int .u64 u]) rfl rfl (exec_call rfl rfl rfl (args2 (show ax.eval (.tmp 95) = .agg #[.int .u64 a, .int .u64 b, .int .i64 c, .int .i64 d] from s95) (show ax.eval (.tmp 96) = .int .u64 u from s96)) Try.func36 (by decide +kernel) rfl) ?_
     · refine (has_n a b c d u wx).mono ?_
       rintro e w' ⟨rfl, b9⟩
       exact ⟨_, rfl, _, rfl, tab_put rfl hs rfl (congrArg Value.bool Ffk7.out), hS.quiet 2 rfl b9⟩
    ·
     exact wpOp_val (v := .bool true) (w' := wx) rfl rfl (by simp [execOp, Act.eval, t16]) ⟨_, rfl, tab_put rfl hs rfl rfl, hS.same 3 rfl⟩
    ·
     have s98 : ax.tmps.getD 98 undef = .bool true := (hdone 0 _ rfl rfl).2 _ rfl
     exact wpOp_val (v := .bool true) (w' := wx) rfl rfl (by simp [execOp, Act.eval, s98]) ⟨_, rfl, tab_put rfl hs rfl rfl, hS.same 4 rfl⟩
    ·
     have hg : ax.tmps.getD 99 undef = .bool true := (hdone 0 _ rfl rfl).2 _ rfl
     have hr := hS.rowNi 3 rfl
     exact wpOp_valw (v := .agg #[.int .u64 ((Rg.meetR ⟨⟨a, b⟩, ⟨c, d⟩⟩ ⟨⟨p, q⟩, ⟨r, t⟩⟩).u.lo), .int .u64 ((Rg.meetR ⟨⟨a, b⟩, ⟨c, d⟩⟩ ⟨⟨p, q⟩, ⟨r, t⟩⟩).u.hi), .int .i64 ((Rg.meetR ⟨⟨a, b⟩, ⟨c, d⟩⟩ ⟨⟨p, q⟩, ⟨r, t⟩⟩).s.lo), .int .i64 ((Rg.meetR ⟨⟨a, b⟩, ⟨c, d⟩⟩ ⟨⟨p, q⟩, ⟨r, t⟩⟩).s.hi)]) (w' := wx) rfl (wanted_yes 4 99 true hg (by rw [hs]; omega) rfl rfl rfl rfl) (exec_loadR 60 _ rfl g4 0 (show ax.eval (.tmp 15) = .pointer (some ⟨g4, 0, none⟩) from t15) hr [.int .u64 ((Rg.meetR ⟨⟨a, b⟩, ⟨c, d⟩⟩ ⟨⟨p, q⟩, ⟨r, t⟩⟩).u.lo), .int .u64 ((Rg.meetR ⟨⟨a, b⟩, ⟨c, d⟩⟩ ⟨⟨p, q⟩, ⟨r, t⟩⟩).u.hi), .int .i64 ((Rg.meetR ⟨⟨a, b⟩, ⟨c, d⟩⟩ ⟨⟨p, q⟩, ⟨r, t⟩⟩).s.lo), .int .i64 ((Rg.meetR ⟨⟨a, b⟩, ⟨c, d⟩⟩ ⟨⟨p, q⟩, ⟨r, t⟩⟩).s.hi)] rfl _ Try.underlying60 rfl (by kernel_rfl)) ⟨_, rfl, tab_put rfl hs rfl rfl, hS.same 5 rfl⟩
    ·
     have hg : ax.tmps.getD 99 undef = .bool true := (hdone 0 _ rfl rfl).2 _ rfl
     exact wpOp_valw (v := .int .u64 u) (w' := wx) rfl (wanted_yes 4 99 true hg (by rw [hs]; omega) rfl rfl rfl rfl) (by simp [execOp, Act.eval, t4]) ⟨_, rfl, tab_put rfl hs rfl rfl, hS.same 6 rfl⟩
    ·
     have hg : ax.tmps.getD 99 undef = .bool true := (hdone 2 _ rfl rfl).2 _ rfl
     have s100 : ax.tmps.getD 100 undef = .agg #[.int .u64 ((Rg.meetR ⟨⟨a, b⟩, ⟨c, d⟩⟩ ⟨⟨p, q⟩, ⟨r, t⟩⟩).u.lo), .int .u64 ((Rg.meetR ⟨⟨a, b⟩, ⟨c, d⟩⟩ ⟨⟨p, q⟩, ⟨r, t⟩⟩).u.hi), .int .i64 ((Rg.meetR ⟨⟨a, b⟩, ⟨c, d⟩⟩ ⟨⟨p, q⟩, ⟨r, t⟩⟩).s.lo), .int .i64 ((Rg.meetR ⟨⟨a, b⟩, ⟨c, d⟩⟩ ⟨⟨p, q⟩, ⟨r, t⟩⟩).s.hi)] := (hdone 0 _ rfl rfl).2 _ rfl
     have s101 : ax.tmps.getD 101 undef = .int .u64 u := (hdone 1 _ rfl rfl).2 _ rfl
     refine wpOp_callw (args := #[.agg #[.int .u64 ((Rg.meetR ⟨⟨a, b⟩, ⟨c, d⟩⟩ ⟨⟨p, q⟩, ⟨r, t⟩⟩).u.lo), .int .u64 ((Rg.meetR ⟨⟨a, b⟩, ⟨c, d⟩⟩ ⟨⟨p, q⟩, ⟨r, t⟩⟩).u.hi), .int .i64 ((Rg.meetR ⟨⟨a, b⟩, ⟨c, d⟩⟩ ⟨⟨p, q⟩, ⟨r, t⟩⟩).s.lo), .int .i64 ((Rg.meetR ⟨⟨a, b⟩, ⟨c, d⟩⟩ ⟨⟨p, q⟩, ⟨r, t⟩⟩).s.hi)], .int .u64 u]) rfl (wanted_yes 4 99 true hg (by rw [hs]; omega) rfl rfl rfl rfl) (exec_call rfl rfl rfl (args2 (show ax.eval (.tmp 100) = .agg #[.int .u64 ((Rg.meetR ⟨⟨a, b⟩, ⟨c, d⟩⟩ ⟨⟨p, q⟩, ⟨r, t⟩⟩).u.lo), .int .u64 ((Rg.meetR ⟨⟨a, b⟩, ⟨c, d⟩⟩ ⟨⟨p, q⟩, ⟨r, t⟩⟩).u.hi), .int .i64 ((Rg.meetR ⟨⟨a, b⟩, ⟨c, d⟩⟩ ⟨⟨p, q⟩, ⟨r, t⟩⟩).s.lo), .int .i64 ((Rg.meetR ⟨⟨a, b⟩, ⟨c, d⟩⟩ ⟨⟨p, q⟩, ⟨r, t⟩⟩).s.hi)] from s100) (show ax.eval (.tmp 101) = .int .u64 u from s101)) Try.func36 (by decide +kernel) rfl) ?_
     · refine (has_n ((Rg.meetR ⟨⟨a, b⟩, ⟨c, d⟩⟩ ⟨⟨p, q⟩, ⟨r, t⟩⟩).u.lo) ((Rg.meetR ⟨⟨a, b⟩, ⟨c, d⟩⟩ ⟨⟨p, q⟩, ⟨r, t⟩⟩).u.hi) ((Rg.meetR ⟨⟨a, b⟩, ⟨c, d⟩⟩ ⟨⟨p, q⟩, ⟨r, t⟩⟩).s.lo) ((Rg.meetR ⟨⟨a, b⟩, ⟨c, d⟩⟩ ⟨⟨p, q⟩, ⟨r, t⟩⟩).s.hi) u wx).mono ?_
       rintro e w' ⟨rfl, b9⟩
       exact ⟨_, rfl, _, rfl, tab_put rfl hs rfl (congrArg Value.bool ((KM1.out Ffk1.out Ffk2.out Ffk6.out).trans Ffk7.out)), hS.quiet 7 rfl b9⟩
    ·
     have s99 : ax.tmps.getD 99 undef = .bool true := (hdone 0 _ rfl rfl).2 _ rfl
     have s102 : ax.tmps.getD 102 undef = .bool true := (hdone 1 _ rfl rfl).2 _ rfl
     exact wpOp_val (v := .bool true) (w' := wx) rfl rfl (by simp [execOp, Act.eval, s99, s102, go_sem]) ⟨_, rfl, tab_put rfl hs rfl rfl, hS.same 8 rfl⟩
    ·
     have s97 : ax.tmps.getD 97 undef = .bool true := (hdone 0 _ rfl rfl).2 _ rfl
     have s103 : ax.tmps.getD 103 undef = .bool true := (hdone 1 _ rfl rfl).2 _ rfl
     exact wpOp_val (v := .bool true) (w' := wx) rfl rfl (by (simp [execOp, Act.eval, s97, s103, go_sem]; try (simp only [IntKind.wrap_i64, wrap64]))) ⟨_, rfl, tab_put rfl hs rfl rfl, hS.same 9 rfl⟩
    ·
     have s104 : ax.tmps.getD 104 undef = .bool true := (hdone 0 _ rfl rfl).2 _ rfl
     exact wpOp_val (v := .bool true) (w' := wx) rfl rfl (by simp [execOp, Act.eval, s104]) ⟨_, rfl, tab_put rfl hs rfl rfl, hS.same 10 rfl⟩
    ·
     have hg : ax.tmps.getD 105 undef = .bool true := (hdone 0 _ rfl rfl).2 _ rfl
     refine wpOp_callw (args := #[]) rfl (wanted_yes 10 105 true hg (by rw [hs]; omega) rfl rfl rfl rfl) (exec_call rfl rfl rfl (args0 ) Try.func46 (by decide +kernel) rfl) ?_
     · refine (wakes_n wx).mono ?_
       rintro e w' ⟨rfl, b9⟩
       exact ⟨_, rfl, _, rfl, tab_put rfl hs rfl rfl, hS.quiet 11 rfl b9⟩
    ·
     have s105 : ax.tmps.getD 105 undef = .bool true := (hdone 0 _ rfl rfl).2 _ rfl
     have s106 : ax.tmps.getD 106 undef = .bool true := (hdone 1 _ rfl rfl).2 _ rfl
     exact wpOp_val (v := .bool true) (w' := wx) rfl rfl (by simp [execOp, Act.eval, s105, s106, go_sem]) ⟨_, rfl, tab_put rfl hs rfl rfl, hS.same 12 rfl⟩
    ·
     have s107 : ax.tmps.getD 107 undef = .bool true := (hdone 0 _ rfl rfl).2 _ rfl
     exact wpOp_val (v := .bool true) (w' := wx) rfl rfl (by simp [execOp, Act.eval, s107]) ⟨_, rfl, tab_put rfl hs rfl rfl, hS.same 13 rfl⟩
  intro a8 w8 fl d8 z8 rest8 R8 hfl hS
  obtain ⟨B8, n8, hBs, hAs, hPs⟩ := hS.finish hfl rfl
  replace d8 := d8.trans d7
  replace z8 := z8.trans z7
  obtain ⟨⟨-, b_g1_8⟩, ⟨-, b_g2_8⟩, ⟨-, b_g3_8⟩, ⟨l_g4_8, b_g4_8⟩, -⟩ := hBs
  replace l_g4_8 : g4 < w7.heap.size := l_g4_8
  have s10_8 : a8.tmps.getD 10 undef = .bool true := R8 13 _ rfl
  clear R8 rest8 hS hfl hPs hAs
  clear u_g4 s4_7 s6_7 s10_7 s16_7 b_g1_7 b_g2_7 b_g3_7 b_g4_7 d7 z7
  refine wp_ret ?_
  try simp only [Exit.inBlock, Exit.then]
  refine bodyPost_ret (res_t (fn := Try.f8) rfl s10_8) d8 ?_
  exact ⟨rfl, B8⟩

theorem hold_walk (op : Int) (x y : Rg) (v u : Int) (W : World) (hc : (Lit.int .i8 op).wf = true) (hx : x.Ok) (hy : y.Ok) (hv : (Lit.int .u64 v).wf = true) (hu : (Lit.int .u64 u).wf = true) : Calls Try.prog 8 #[.int .i8 op, x.val, y.val, .int .u64 v, .int .u64 u] W fun e w' => e = .returned (.bool true) ∧ Below W.heap.size W w' :=
  hold_law op x.u.lo x.u.hi x.s.lo x.s.hi y.u.lo y.u.hi y.s.lo y.s.hi v u W hx hy (wf_u64 hv).1 (wf_u64 hv).2 (wf_u64 hu).1 (wf_u64 hu).2
end Go.Proofs.Ytfededcmelhjjaa.Bnd
