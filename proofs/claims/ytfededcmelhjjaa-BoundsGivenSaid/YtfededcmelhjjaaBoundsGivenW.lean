/-
  The law BoundsGiven. (Written by gen_bndd.py.)
-/
import Derived.Test.YtfededcmelhjjaaBndW
import Derived.Test.YtfededcmelhjjaaBndO
import Derived.Test.YtfededcmelhjjaaBitsVa
namespace Go.Proofs.Ytfededcmelhjjaa.Bnd
open Go.RowKit
set_option linter.unusedVariables false
set_option linter.unusedSimpArgs false
set_option linter.unnecessarySimpa false
set_option maxRecDepth 100000

set_option maxHeartbeats 8000000 in
theorem given_law (cc a b c d p q r t v u : Int) (W : World) (ha : Rg.Ok ⟨⟨a, b⟩, ⟨c, d⟩⟩) (hb : Rg.Ok ⟨⟨p, q⟩, ⟨r, t⟩⟩) (v0 : 0 ≤ v) (v1 : v < 18446744073709551616) (u0 : 0 ≤ u) (u1 : u < 18446744073709551616) : Calls Try.prog 9 #[.int .i8 cc, .agg #[.int .u64 a, .int .u64 b, .int .i64 c, .int .i64 d], .agg #[.int .u64 p, .int .u64 q, .int .i64 r, .int .i64 t], .int .u64 v, .int .u64 u] W fun e w' => e = .returned (.bool true) ∧ Below W.heap.size W w' := by
  have HA := Lib.hid ha
  have HB := Lib.hid hb
  have HN := Lib.hid (And.intro (And.intro v0 v1) (And.intro u0 u1))
  have K1 : Hid (Rg.hasB ⟨⟨a, b⟩, ⟨c, d⟩⟩ v = true → Rg.hasB ⟨⟨p, q⟩, ⟨r, t⟩⟩ u = true → holdsB cc 64 v u = true → Rg.givB cc ⟨⟨a, b⟩, ⟨c, d⟩⟩ ⟨⟨p, q⟩, ⟨r, t⟩⟩ = true ∧ Rg.hasB (Rg.giv cc ⟨⟨a, b⟩, ⟨c, d⟩⟩ ⟨⟨p, q⟩, ⟨r, t⟩⟩) v = true) := Lib.hid (fun h1 h2 h => given_has ha hb h1 h2 v0 v1 u0 u1 h)
  have K2 : Hid (holdsB cc 64 v u = true → ((holdsE cc 64) != 0) = false) := Lib.hid (fun h => by
    unfold holdsB at h
    unfold holdsE
    by_cases e : 0 ≤ cc ∧ cc ≤ 10 ∧ longB 64 = true
    · rw [if_pos e]; rfl
    · rw [if_neg e] at h; cases h)
  have K3 : Hid (Rg.givB cc ⟨⟨a, b⟩, ⟨c, d⟩⟩ ⟨⟨p, q⟩, ⟨r, t⟩⟩ = true → ((holdsE cc 64) != 0) = false) := Lib.hid (fun h => by
    unfold Rg.givB at h
    simp only [Bool.and_eq_true] at h
    have e := h.2.2.1
    unfold ccOk at e
    simp only [Bool.and_eq_true, decide_eq_true_eq] at e
    unfold holdsE
    rw [if_pos ⟨e.1, e.2, rfl⟩]; rfl)
  clear ha hb v0 v1 u0 u1
  refine calls_abs Try.func9 rfl (Nat.le_of_ble_eq_true rfl) ?_
  intro a0 d0 z0 h0
  have z0 : a0.tmps.size = 69 := z0
  have s0_0 : a0.tmps.getD 0 undef = .int .i8 cc := h0 0 (Nat.le_of_ble_eq_true rfl)
  have s1_0 : a0.tmps.getD 1 undef = .agg #[.int .u64 a, .int .u64 b, .int .i64 c, .int .i64 d] := h0 1 (Nat.le_of_ble_eq_true rfl)
  have s2_0 : a0.tmps.getD 2 undef = .agg #[.int .u64 p, .int .u64 q, .int .i64 r, .int .i64 t] := h0 2 (Nat.le_of_ble_eq_true rfl)
  have s3_0 : a0.tmps.getD 3 undef = .int .u64 v := h0 3 (Nat.le_of_ble_eq_true rfl)
  have s4_0 : a0.tmps.getD 4 undef = .int .u64 u := h0 4 (Nat.le_of_ble_eq_true rfl)
  clear h0
  have B0 : Below W.heap.size W W := Below.refl _ _
  refine wp_seq ?_
  refine wp_regx (SX W W.heap.size [] [⟨0, 6, 60, (cR a b c d), none, #[]⟩, ⟨1, 7, 60, (cR p q r t), none, #[]⟩]) (TabX [fun _ => True, fun _ => True, fun vx => vx = .bool false]) (by kernel_rfl) (back_of (by kernel_rfl)) (dst_of (by kernel_rfl)) (in_ofz (by kernel_rfl) z0) (fun fl w1 hfl hw => SX.start' hw B0 hfl rfl trivial) ?h1 ?_
  case h1 =>
    intro ix ox ax wx fl ho hS hfi clo hsz hrest hdone hund
    have t1 := (hrest 1 (not_of (by kernel_rfl))).trans s1_0
    have t2 := (hrest 2 (not_of (by kernel_rfl))).trans s2_0
    have hs : ax.tmps.size = 69 := hsz.trans z0
    have hi : ix < 3 := (Array.getElem?_eq_some_iff.1 ho).1
    clear hrest hsz hund
    obtain rfl | rfl | rfl : ix = 0 ∨ ix = 1 ∨ ix = 2 := by omega
    all_goals obtain rfl := Option.some.inj (show some _ = some ox from ho)
    ·
     refine wpOp_val (v := .pointer (some ⟨wx.heap.size, 0, none⟩)) (w' := wx.alloc (.cells #[.int .u64 a, .int .u64 b, .int .i64 c, .int .i64 d] 60)) rfl rfl ?_ ⟨_, rfl, trivial, hS.alloc 0 6 60 #[.int .u64 a, .int .u64 b, .int .i64 c, .int .i64 d] [] [⟨1, 7, 60, (cR p q r t), none, #[]⟩] (none) #[] rfl rfl rfl (by rw [hs]; omega) trivial⟩
     · simp [execOp, Act.eval, t1, go_sem]
    ·
     refine wpOp_val (v := .pointer (some ⟨wx.heap.size, 0, none⟩)) (w' := wx.alloc (.cells #[.int .u64 p, .int .u64 q, .int .i64 r, .int .i64 t] 60)) rfl rfl ?_ ⟨_, rfl, trivial, hS.alloc 1 7 60 #[.int .u64 p, .int .u64 q, .int .i64 r, .int .i64 t] [⟨0, 6, 60, (cR a b c d), none, #[]⟩] [] (none) #[] rfl rfl rfl (by rw [hs]; omega) trivial⟩
     · simp [execOp, Act.eval, t2, go_sem]
    ·
     exact wpOp_val (v := .bool false) (w' := wx) rfl rfl (by simp [execOp, Act.eval]) ⟨_, rfl, tab_put rfl hs rfl rfl, hS.same 2 rfl⟩
  intro a1 w1 fl d1 z1 rest1 R1 hfl hS
  obtain ⟨B1, n1, hBs, hAs, hPs⟩ := hS.finish hfl rfl
  replace d1 := d1.trans d0
  replace z1 := z1.trans z0
  obtain ⟨⟨g1, u_g1, q_g1, b_g1_1⟩, ⟨g2, u_g2, q_g2, b_g2_1⟩, -⟩ := hAs
  replace u_g1 : a1.tmps.getD 6 undef = .pointer (some ⟨g1, 0, none⟩) := u_g1
  have m_g1 : W.heap.size ≤ g1 := q_g1
  replace q_g1 : W.heap.size ≤ g1 := Nat.le_trans B0.size q_g1
  replace u_g2 : a1.tmps.getD 7 undef = .pointer (some ⟨g2, 0, none⟩) := u_g2
  have m_g2 : W.heap.size ≤ g2 := q_g2
  replace q_g2 : W.heap.size ≤ g2 := Nat.le_trans B0.size q_g2
  simp only [List.pairwise_cons, List.mem_cons, List.not_mem_nil, or_false, forall_eq_or_imp, forall_eq] at hPs
  have ne_g1_g2 : g1 ≠ g2 := by
    have hn : slotOf a1 6 ≠ slotOf a1 7 := hPs.1
    intro e; subst e; exact hn (Eq.trans u_g1 u_g2.symm)
  have s0_1 := (rest1 0 (not_of (by kernel_rfl))).trans s0_0
  have s3_1 := (rest1 3 (not_of (by kernel_rfl))).trans s3_0
  have s4_1 := (rest1 4 (not_of (by kernel_rfl))).trans s4_0
  have s10_1 : a1.tmps.getD 10 undef = .bool false := R1 2 _ rfl
  clear R1 rest1 hS hfl hPs hBs
  clear s0_0 s1_0 s2_0 s3_0 s4_0 d0 z0
  refine wp_seq ?_
  refine wp_seq ?_
  cases fk1 : Rg.hasB ⟨⟨a, b⟩, ⟨c, d⟩⟩ v
  case false =>
   have Ffk1 := Lib.hid fk1; clear fk1
   refine wp_regx (SX W w1.heap.size [⟨g1, 60, (cR a b c d), none, #[]⟩, ⟨g2, 60, (cR p q r t), none, #[]⟩] []) (TabX [fun vx => vx = .agg #[.int .u64 a, .int .u64 b, .int .i64 c, .int .i64 d], fun vx => vx = .int .u64 v, fun vx => vx = .bool false, fun vx => vx = .bool true, fun vx => vx = .bool true, fun vx => vx = undef, fun vx => vx = undef, fun vx => vx = undef, fun vx => vx = undef, fun vx => vx = .bool true]) (by kernel_rfl) (back_of (by kernel_rfl)) (dst_of (by kernel_rfl)) (in_ofz (by kernel_rfl) z1) (fun fl w1 hfl hw => SX.start' hw B1 hfl rfl ⟨b_g1_1, b_g2_1, trivial⟩) ?h2 ?_
   case h2 =>
     intro ix ox ax wx fl ho hS hfi clo hsz hrest hdone hund
     have t3 := (hrest 3 (not_of (by kernel_rfl))).trans s3_1
     have t4 := (hrest 4 (not_of (by kernel_rfl))).trans s4_1
     have t6 := (hrest 6 (not_of (by kernel_rfl))).trans u_g1
     have t7 := (hrest 7 (not_of (by kernel_rfl))).trans u_g2
     have hs : ax.tmps.size = 69 := hsz.trans z1
     have hi : ix < 10 := (Array.getElem?_eq_some_iff.1 ho).1
     clear hrest hsz hund
     obtain rfl | rfl | rfl | rfl | rfl | rfl | rfl | rfl | rfl | rfl : ix = 0 ∨ ix = 1 ∨ ix = 2 ∨ ix = 3 ∨ ix = 4 ∨ ix = 5 ∨ ix = 6 ∨ ix = 7 ∨ ix = 8 ∨ ix = 9 := by omega
     all_goals obtain rfl := Option.some.inj (show some _ = some ox from ho)
     ·
      have hr := hS.rowNi 0 rfl
      exact wpOp_val (v := .agg #[.int .u64 a, .int .u64 b, .int .i64 c, .int .i64 d]) (w' := wx) rfl rfl (exec_loadR 60 _ rfl g1 0 (show ax.eval (.tmp 6) = .pointer (some ⟨g1, 0, none⟩) from t6) hr [.int .u64 a, .int .u64 b, .int .i64 c, .int .i64 d] rfl _ Try.underlying60 rfl (by kernel_rfl)) ⟨_, rfl, tab_put rfl hs rfl rfl, hS.same 0 rfl⟩
     ·
      exact wpOp_val (v := .int .u64 v) (w' := wx) rfl rfl (by simp [execOp, Act.eval, t3]) ⟨_, rfl, tab_put rfl hs rfl rfl, hS.same 1 rfl⟩
     ·
      have s15 : ax.tmps.getD 15 undef = .agg #[.int .u64 a, .int .u64 b, .int .i64 c, .int .i64 d] := (hdone 0 _ rfl rfl).2 _ rfl
      have s16 : ax.tmps.getD 16 undef = .int .u64 v := (hdone 1 _ rfl rfl).2 _ rfl
      refine wpOp_call (args := #[.agg #[.int .u64 a, .int .u64 b, .int .i64 c, .int .i64 d], .int .u64 v]) rfl rfl (exec_call rfl rfl rfl (args2 (show ax.eval (.tmp 15) = .agg #[.int .u64 a, .int .u64 b, .int .i64 c, .int .i64 d] from s15) (show ax.eval (.tmp 16) = .int .u64 v from s16)) Try.func36 (by decide +kernel) rfl) ?_
      · refine (has_n a b c d v wx).mono ?_
        rintro e w' ⟨rfl, b9⟩
        exact ⟨_, rfl, _, rfl, tab_put rfl hs rfl (congrArg Value.bool Ffk1.out), hS.quiet 2 rfl b9⟩
     ·
      have s17 : ax.tmps.getD 17 undef = .bool false := (hdone 0 _ rfl rfl).2 _ rfl
      exact wpOp_val (v := .bool true) (w' := wx) rfl rfl (by simp [execOp, Act.eval, s17, go_sem]) ⟨_, rfl, tab_put rfl hs rfl rfl, hS.same 3 rfl⟩
     ·
      have s18 : ax.tmps.getD 18 undef = .bool true := (hdone 0 _ rfl rfl).2 _ rfl
      exact wpOp_val (v := .bool true) (w' := wx) rfl rfl (by simp [execOp, Act.eval, s18]) ⟨_, rfl, tab_put rfl hs rfl rfl, hS.same 4 rfl⟩
     ·
      have hg : ax.tmps.getD 19 undef = .bool true := (hdone 0 _ rfl rfl).2 _ rfl
      exact wpOp_no rfl (wanted_no 4 19 true hg (by rw [hs]; omega) rfl rfl rfl rfl) ⟨_, rfl, tab_put rfl hs rfl rfl, hS.same 5 rfl⟩
     ·
      have hg : ax.tmps.getD 19 undef = .bool true := (hdone 0 _ rfl rfl).2 _ rfl
      exact wpOp_no rfl (wanted_no 4 19 true hg (by rw [hs]; omega) rfl rfl rfl rfl) ⟨_, rfl, tab_put rfl hs rfl rfl, hS.same 6 rfl⟩
     ·
      have hg : ax.tmps.getD 19 undef = .bool true := (hdone 2 _ rfl rfl).2 _ rfl
      exact wpOp_no rfl (wanted_no 4 19 true hg (by rw [hs]; omega) rfl rfl rfl rfl) ⟨_, rfl, tab_put rfl hs rfl rfl, hS.same 7 rfl⟩
     ·
      have hg : ax.tmps.getD 19 undef = .bool true := (hdone 1 _ rfl rfl).2 _ rfl
      exact wpOp_no rfl (wanted_no 4 19 true hg (by rw [hs]; omega) rfl rfl rfl rfl) ⟨_, rfl, tab_put rfl hs rfl rfl, hS.same 8 rfl⟩
     ·
      have s19 : ax.tmps.getD 19 undef = .bool true := (hdone 0 _ rfl rfl).2 _ rfl
      have s23 : ax.tmps.getD 23 undef = undef := (hdone 1 _ rfl rfl).2 _ rfl
      exact wpOp_val (v := .bool true) (w' := wx) rfl rfl (by simp [execOp, Act.eval, s19, s23, go_sem]) ⟨_, rfl, tab_put rfl hs rfl rfl, hS.same 9 rfl⟩
   intro a2 w2 fl d2 z2 rest2 R2 hfl hS
   obtain ⟨B2, n2, hBs, hAs, hPs⟩ := hS.finish hfl rfl
   replace d2 := d2.trans d1
   replace z2 := z2.trans z1
   obtain ⟨⟨l_g1_2, b_g1_2⟩, ⟨l_g2_2, b_g2_2⟩, -⟩ := hBs
   replace l_g1_2 : g1 < w1.heap.size := l_g1_2
   replace l_g2_2 : g2 < w1.heap.size := l_g2_2
   have s0_2 := (rest2 0 (not_of (by kernel_rfl))).trans s0_1
   have s3_2 := (rest2 3 (not_of (by kernel_rfl))).trans s3_1
   have s4_2 := (rest2 4 (not_of (by kernel_rfl))).trans s4_1
   have s6_2 := (rest2 6 (not_of (by kernel_rfl))).trans u_g1
   have s7_2 := (rest2 7 (not_of (by kernel_rfl))).trans u_g2
   have s10_2 := (rest2 10 (not_of (by kernel_rfl))).trans s10_1
   have s24_2 : a2.tmps.getD 24 undef = .bool true := R2 9 _ rfl
   clear R2 rest2 hS hfl hPs hAs
   clear u_g1 u_g2 s0_1 s3_1 s4_1 s10_1 b_g1_1 b_g2_1 d1 z1
   refine wp_cond_true (show a2.tmps.getD 24 undef = .bool true from s24_2) ?_
   refine wp_seq ?_
   refine wp_regx (SX W w2.heap.size [⟨g1, 60, (cR a b c d), none, #[]⟩, ⟨g2, 60, (cR p q r t), none, #[]⟩] []) (TabX [fun vx => vx = .bool true, fun vx => vx = .bool true]) (by kernel_rfl) (back_of (by kernel_rfl)) (dst_of (by kernel_rfl)) (in_ofz (by kernel_rfl) z2) (fun fl w1 hfl hw => SX.start' hw B2 hfl rfl ⟨b_g1_2, b_g2_2, trivial⟩) ?h3 ?_
   case h3 =>
     intro ix ox ax wx fl ho hS hfi clo hsz hrest hdone hund
     have hs : ax.tmps.size = 69 := hsz.trans z2
     have hi : ix < 2 := (Array.getElem?_eq_some_iff.1 ho).1
     clear hrest hsz hund
     obtain rfl | rfl : ix = 0 ∨ ix = 1 := by omega
     all_goals obtain rfl := Option.some.inj (show some _ = some ox from ho)
     ·
      refine wpOp_call (args := #[]) rfl rfl (exec_call rfl rfl rfl (args0 ) Try.func46 (by decide +kernel) rfl) ?_
      · refine (wakes_n wx).mono ?_
        rintro e w' ⟨rfl, b9⟩
        exact ⟨_, rfl, _, rfl, tab_put rfl hs rfl rfl, hS.quiet 0 rfl b9⟩
     ·
      have s25 : ax.tmps.getD 25 undef = .bool true := (hdone 0 _ rfl rfl).2 _ rfl
      exact wpOp_val (v := .bool true) (w' := wx) rfl rfl (by simp [execOp, Act.eval, s25]) ⟨_, rfl, tab_put rfl hs rfl rfl, hS.same 1 rfl⟩
   intro a3 w3 fl d3 z3 rest3 R3 hfl hS
   obtain ⟨B3, n3, hBs, hAs, hPs⟩ := hS.finish hfl rfl
   replace d3 := d3.trans d2
   replace z3 := z3.trans z2
   obtain ⟨⟨-, b_g1_3⟩, ⟨-, b_g2_3⟩, -⟩ := hBs
   have s0_3 := (rest3 0 (not_of (by kernel_rfl))).trans s0_2
   have s3_3 := (rest3 3 (not_of (by kernel_rfl))).trans s3_2
   have s4_3 := (rest3 4 (not_of (by kernel_rfl))).trans s4_2
   have s6_3 := (rest3 6 (not_of (by kernel_rfl))).trans s6_2
   have s7_3 := (rest3 7 (not_of (by kernel_rfl))).trans s7_2
   have s10_3 : a3.tmps.getD 10 undef = .bool true := R3 1 _ rfl
   clear R3 rest3 hS hfl hPs hAs
   clear s0_2 s3_2 s4_2 s6_2 s7_2 s10_2 s24_2 b_g1_2 b_g2_2 d2 z2
   refine wp_ret ?_
   try simp only [Exit.inBlock, Exit.then]
   refine bodyPost_ret (res_t (fn := Try.f9) rfl s10_3) d3 ?_
   exact ⟨rfl, B3⟩
  have Ffk1 := Lib.hid fk1; clear fk1
  cases fk2 : Rg.hasB ⟨⟨p, q⟩, ⟨r, t⟩⟩ u
  case false =>
   have Ffk2 := Lib.hid fk2; clear fk2
   refine wp_regx (SX W w1.heap.size [⟨g1, 60, (cR a b c d), none, #[]⟩, ⟨g2, 60, (cR p q r t), none, #[]⟩] []) (TabX [fun vx => vx = .agg #[.int .u64 a, .int .u64 b, .int .i64 c, .int .i64 d], fun vx => vx = .int .u64 v, fun vx => vx = .bool true, fun vx => vx = .bool false, fun vx => vx = .bool false, fun vx => vx = .agg #[.int .u64 p, .int .u64 q, .int .i64 r, .int .i64 t], fun vx => vx = .int .u64 u, fun vx => vx = .bool false, fun vx => vx = .bool true, fun vx => vx = .bool true]) (by kernel_rfl) (back_of (by kernel_rfl)) (dst_of (by kernel_rfl)) (in_ofz (by kernel_rfl) z1) (fun fl w1 hfl hw => SX.start' hw B1 hfl rfl ⟨b_g1_1, b_g2_1, trivial⟩) ?h4 ?_
   case h4 =>
     intro ix ox ax wx fl ho hS hfi clo hsz hrest hdone hund
     have t3 := (hrest 3 (not_of (by kernel_rfl))).trans s3_1
     have t4 := (hrest 4 (not_of (by kernel_rfl))).trans s4_1
     have t6 := (hrest 6 (not_of (by kernel_rfl))).trans u_g1
     have t7 := (hrest 7 (not_of (by kernel_rfl))).trans u_g2
     have hs : ax.tmps.size = 69 := hsz.trans z1
     have hi : ix < 10 := (Array.getElem?_eq_some_iff.1 ho).1
     clear hrest hsz hund
     obtain rfl | rfl | rfl | rfl | rfl | rfl | rfl | rfl | rfl | rfl : ix = 0 ∨ ix = 1 ∨ ix = 2 ∨ ix = 3 ∨ ix = 4 ∨ ix = 5 ∨ ix = 6 ∨ ix = 7 ∨ ix = 8 ∨ ix = 9 := by omega
     all_goals obtain rfl := Option.some.inj (show some _ = some ox from ho)
     ·
      have hr := hS.rowNi 0 rfl
      exact wpOp_val (v := .agg #[.int .u64 a, .int .u64 b, .int .i64 c, .int .i64 d]) (w' := wx) rfl rfl (exec_loadR 60 _ rfl g1 0 (show ax.eval (.tmp 6) = .pointer (some ⟨g1, 0, none⟩) from t6) hr [.int .u64 a, .int .u64 b, .int .i64 c, .int .i64 d] rfl _ Try.underlying60 rfl (by kernel_rfl)) ⟨_, rfl, tab_put rfl hs rfl rfl, hS.same 0 rfl⟩
     ·
      exact wpOp_val (v := .int .u64 v) (w' := wx) rfl rfl (by simp [execOp, Act.eval, t3]) ⟨_, rfl, tab_put rfl hs rfl rfl, hS.same 1 rfl⟩
     ·
      have s15 : ax.tmps.getD 15 undef = .agg #[.int .u64 a, .int .u64 b, .int .i64 c, .int .i64 d] := (hdone 0 _ rfl rfl).2 _ rfl
      have s16 : ax.tmps.getD 16 undef = .int .u64 v := (hdone 1 _ rfl rfl).2 _ rfl
      refine wpOp_call (args := #[.agg #[.int .u64 a, .int .u64 b, .int .i64 c, .int .i64 d], .int .u64 v]) rfl rfl (exec_call rfl rfl rfl (args2 (show ax.eval (.tmp 15) = .agg #[.int .u64 a, .int .u64 b, .int .i64 c, .int .i64 d] from s15) (show ax.eval (.tmp 16) = .int .u64 v from s16)) Try.func36 (by decide +kernel) rfl) ?_
      · refine (has_n a b c d v wx).mono ?_
        rintro e w' ⟨rfl, b9⟩
        exact ⟨_, rfl, _, rfl, tab_put rfl hs rfl (congrArg Value.bool Ffk1.out), hS.quiet 2 rfl b9⟩
     ·
      have s17 : ax.tmps.getD 17 undef = .bool true := (hdone 0 _ rfl rfl).2 _ rfl
      exact wpOp_val (v := .bool false) (w' := wx) rfl rfl (by simp [execOp, Act.eval, s17, go_sem]) ⟨_, rfl, tab_put rfl hs rfl rfl, hS.same 3 rfl⟩
     ·
      have s18 : ax.tmps.getD 18 undef = .bool false := (hdone 0 _ rfl rfl).2 _ rfl
      exact wpOp_val (v := .bool false) (w' := wx) rfl rfl (by simp [execOp, Act.eval, s18]) ⟨_, rfl, tab_put rfl hs rfl rfl, hS.same 4 rfl⟩
     ·
      have hg : ax.tmps.getD 19 undef = .bool false := (hdone 0 _ rfl rfl).2 _ rfl
      have hr := hS.rowNi 1 rfl
      exact wpOp_valw (v := .agg #[.int .u64 p, .int .u64 q, .int .i64 r, .int .i64 t]) (w' := wx) rfl (wanted_yes 4 19 false hg (by rw [hs]; omega) rfl rfl rfl rfl) (exec_loadR 60 _ rfl g2 0 (show ax.eval (.tmp 7) = .pointer (some ⟨g2, 0, none⟩) from t7) hr [.int .u64 p, .int .u64 q, .int .i64 r, .int .i64 t] rfl _ Try.underlying60 rfl (by kernel_rfl)) ⟨_, rfl, tab_put rfl hs rfl rfl, hS.same 5 rfl⟩
     ·
      have hg : ax.tmps.getD 19 undef = .bool false := (hdone 0 _ rfl rfl).2 _ rfl
      exact wpOp_valw (v := .int .u64 u) (w' := wx) rfl (wanted_yes 4 19 false hg (by rw [hs]; omega) rfl rfl rfl rfl) (by simp [execOp, Act.eval, t4]) ⟨_, rfl, tab_put rfl hs rfl rfl, hS.same 6 rfl⟩
     ·
      have hg : ax.tmps.getD 19 undef = .bool false := (hdone 2 _ rfl rfl).2 _ rfl
      have s20 : ax.tmps.getD 20 undef = .agg #[.int .u64 p, .int .u64 q, .int .i64 r, .int .i64 t] := (hdone 0 _ rfl rfl).2 _ rfl
      have s21 : ax.tmps.getD 21 undef = .int .u64 u := (hdone 1 _ rfl rfl).2 _ rfl
      refine wpOp_callw (args := #[.agg #[.int .u64 p, .int .u64 q, .int .i64 r, .int .i64 t], .int .u64 u]) rfl (wanted_yes 4 19 false hg (by rw [hs]; omega) rfl rfl rfl rfl) (exec_call rfl rfl rfl (args2 (show ax.eval (.tmp 20) = .agg #[.int .u64 p, .int .u64 q, .int .i64 r, .int .i64 t] from s20) (show ax.eval (.tmp 21) = .int .u64 u from s21)) Try.func36 (by decide +kernel) rfl) ?_
      · refine (has_n p q r t u wx).mono ?_
        rintro e w' ⟨rfl, b9⟩
        exact ⟨_, rfl, _, rfl, tab_put rfl hs rfl (congrArg Value.bool Ffk2.out), hS.quiet 7 rfl b9⟩
     ·
      have hg : ax.tmps.getD 19 undef = .bool false := (hdone 1 _ rfl rfl).2 _ rfl
      have s22 : ax.tmps.getD 22 undef = .bool false := (hdone 0 _ rfl rfl).2 _ rfl
      exact wpOp_valw (v := .bool true) (w' := wx) rfl (wanted_yes 4 19 false hg (by rw [hs]; omega) rfl rfl rfl rfl) (by simp [execOp, Act.eval, s22, go_sem]) ⟨_, rfl, tab_put rfl hs rfl rfl, hS.same 8 rfl⟩
     ·
      have s19 : ax.tmps.getD 19 undef = .bool false := (hdone 0 _ rfl rfl).2 _ rfl
      have s23 : ax.tmps.getD 23 undef = .bool true := (hdone 1 _ rfl rfl).2 _ rfl
      exact wpOp_val (v := .bool true) (w' := wx) rfl rfl (by simp [execOp, Act.eval, s19, s23, go_sem]) ⟨_, rfl, tab_put rfl hs rfl rfl, hS.same 9 rfl⟩
   intro a2 w2 fl d2 z2 rest2 R2 hfl hS
   obtain ⟨B2, n2, hBs, hAs, hPs⟩ := hS.finish hfl rfl
   replace d2 := d2.trans d1
   replace z2 := z2.trans z1
   obtain ⟨⟨l_g1_2, b_g1_2⟩, ⟨l_g2_2, b_g2_2⟩, -⟩ := hBs
   replace l_g1_2 : g1 < w1.heap.size := l_g1_2
   replace l_g2_2 : g2 < w1.heap.size := l_g2_2
   have s0_2 := (rest2 0 (not_of (by kernel_rfl))).trans s0_1
   have s3_2 := (rest2 3 (not_of (by kernel_rfl))).trans s3_1
   have s4_2 := (rest2 4 (not_of (by kernel_rfl))).trans s4_1
   have s6_2 := (rest2 6 (not_of (by kernel_rfl))).trans u_g1
   have s7_2 := (rest2 7 (not_of (by kernel_rfl))).trans u_g2
   have s10_2 := (rest2 10 (not_of (by kernel_rfl))).trans s10_1
   have s24_2 : a2.tmps.getD 24 undef = .bool true := R2 9 _ rfl
   clear R2 rest2 hS hfl hPs hAs
   clear u_g1 u_g2 s0_1 s3_1 s4_1 s10_1 b_g1_1 b_g2_1 d1 z1
   refine wp_cond_true (show a2.tmps.getD 24 undef = .bool true from s24_2) ?_
   refine wp_seq ?_
   refine wp_regx (SX W w2.heap.size [⟨g1, 60, (cR a b c d), none, #[]⟩, ⟨g2, 60, (cR p q r t), none, #[]⟩] []) (TabX [fun vx => vx = .bool true, fun vx => vx = .bool true]) (by kernel_rfl) (back_of (by kernel_rfl)) (dst_of (by kernel_rfl)) (in_ofz (by kernel_rfl) z2) (fun fl w1 hfl hw => SX.start' hw B2 hfl rfl ⟨b_g1_2, b_g2_2, trivial⟩) ?h5 ?_
   case h5 =>
     intro ix ox ax wx fl ho hS hfi clo hsz hrest hdone hund
     have hs : ax.tmps.size = 69 := hsz.trans z2
     have hi : ix < 2 := (Array.getElem?_eq_some_iff.1 ho).1
     clear hrest hsz hund
     obtain rfl | rfl : ix = 0 ∨ ix = 1 := by omega
     all_goals obtain rfl := Option.some.inj (show some _ = some ox from ho)
     ·
      refine wpOp_call (args := #[]) rfl rfl (exec_call rfl rfl rfl (args0 ) Try.func46 (by decide +kernel) rfl) ?_
      · refine (wakes_n wx).mono ?_
        rintro e w' ⟨rfl, b9⟩
        exact ⟨_, rfl, _, rfl, tab_put rfl hs rfl rfl, hS.quiet 0 rfl b9⟩
     ·
      have s25 : ax.tmps.getD 25 undef = .bool true := (hdone 0 _ rfl rfl).2 _ rfl
      exact wpOp_val (v := .bool true) (w' := wx) rfl rfl (by simp [execOp, Act.eval, s25]) ⟨_, rfl, tab_put rfl hs rfl rfl, hS.same 1 rfl⟩
   intro a3 w3 fl d3 z3 rest3 R3 hfl hS
   obtain ⟨B3, n3, hBs, hAs, hPs⟩ := hS.finish hfl rfl
   replace d3 := d3.trans d2
   replace z3 := z3.trans z2
   obtain ⟨⟨-, b_g1_3⟩, ⟨-, b_g2_3⟩, -⟩ := hBs
   have s0_3 := (rest3 0 (not_of (by kernel_rfl))).trans s0_2
   have s3_3 := (rest3 3 (not_of (by kernel_rfl))).trans s3_2
   have s4_3 := (rest3 4 (not_of (by kernel_rfl))).trans s4_2
   have s6_3 := (rest3 6 (not_of (by kernel_rfl))).trans s6_2
   have s7_3 := (rest3 7 (not_of (by kernel_rfl))).trans s7_2
   have s10_3 : a3.tmps.getD 10 undef = .bool true := R3 1 _ rfl
   clear R3 rest3 hS hfl hPs hAs
   clear s0_2 s3_2 s4_2 s6_2 s7_2 s10_2 s24_2 b_g1_2 b_g2_2 d2 z2
   refine wp_ret ?_
   try simp only [Exit.inBlock, Exit.then]
   refine bodyPost_ret (res_t (fn := Try.f9) rfl s10_3) d3 ?_
   exact ⟨rfl, B3⟩
  have Ffk2 := Lib.hid fk2; clear fk2
  refine wp_regx (SX W w1.heap.size [⟨g1, 60, (cR a b c d), none, #[]⟩, ⟨g2, 60, (cR p q r t), none, #[]⟩] []) (TabX [fun vx => vx = .agg #[.int .u64 a, .int .u64 b, .int .i64 c, .int .i64 d], fun vx => vx = .int .u64 v, fun vx => vx = .bool true, fun vx => vx = .bool false, fun vx => vx = .bool false, fun vx => vx = .agg #[.int .u64 p, .int .u64 q, .int .i64 r, .int .i64 t], fun vx => vx = .int .u64 u, fun vx => vx = .bool true, fun vx => vx = .bool false, fun vx => vx = .bool false]) (by kernel_rfl) (back_of (by kernel_rfl)) (dst_of (by kernel_rfl)) (in_ofz (by kernel_rfl) z1) (fun fl w1 hfl hw => SX.start' hw B1 hfl rfl ⟨b_g1_1, b_g2_1, trivial⟩) ?h6 ?_
  case h6 =>
    intro ix ox ax wx fl ho hS hfi clo hsz hrest hdone hund
    have t3 := (hrest 3 (not_of (by kernel_rfl))).trans s3_1
    have t4 := (hrest 4 (not_of (by kernel_rfl))).trans s4_1
    have t6 := (hrest 6 (not_of (by kernel_rfl))).trans u_g1
    have t7 := (hrest 7 (not_of (by kernel_rfl))).trans u_g2
    have hs : ax.tmps.size = 69 := hsz.trans z1
    have hi : ix < 10 := (Array.getElem?_eq_some_iff.1 ho).1
    clear hrest hsz hund
    obtain rfl | rfl | rfl | rfl | rfl | rfl | rfl | rfl | rfl | rfl : ix = 0 ∨ ix = 1 ∨ ix = 2 ∨ ix = 3 ∨ ix = 4 ∨ ix = 5 ∨ ix = 6 ∨ ix = 7 ∨ ix = 8 ∨ ix = 9 := by omega
    all_goals obtain rfl := Option.some.inj (show some _ = some ox from ho)
    ·
     have hr := hS.rowNi 0 rfl
     exact wpOp_val (v := .agg #[.int .u64 a, .int .u64 b, .int .i64 c, .int .i64 d]) (w' := wx) rfl rfl (exec_loadR 60 _ rfl g1 0 (show ax.eval (.tmp 6) = .pointer (some ⟨g1, 0, none⟩) from t6) hr [.int .u64 a, .int .u64 b, .int .i64 c, .int .i64 d] rfl _ Try.underlying60 rfl (by kernel_rfl)) ⟨_, rfl, tab_put rfl hs rfl rfl, hS.same 0 rfl⟩
    ·
     exact wpOp_val (v := .int .u64 v) (w' := wx) rfl rfl (by simp [execOp, Act.eval, t3]) ⟨_, rfl, tab_put rfl hs rfl rfl, hS.same 1 rfl⟩
    ·
     have s15 : ax.tmps.getD 15 undef = .agg #[.int .u64 a, .int .u64 b, .int .i64 c, .int .i64 d] := (hdone 0 _ rfl rfl).2 _ rfl
     have s16 : ax.tmps.getD 16 undef = .int .u64 v := (hdone 1 _ rfl rfl).2 _ rfl
     refine wpOp_call (args := #[.agg #[.int .u64 a, .int .u64 b, .int .i64 c, .int .i64 d], .int .u64 v]) rfl rfl (exec_call rfl rfl rfl (args2 (show ax.eval (.tmp 15) = .agg #[.int .u64 a, .int .u64 b, .int .i64 c, .int .i64 d] from s15) (show ax.eval (.tmp 16) = .int .u64 v from s16)) Try.func36 (by decide +kernel) rfl) ?_
     · refine (has_n a b c d v wx).mono ?_
       rintro e w' ⟨rfl, b9⟩
       exact ⟨_, rfl, _, rfl, tab_put rfl hs rfl (congrArg Value.bool Ffk1.out), hS.quiet 2 rfl b9⟩
    ·
     have s17 : ax.tmps.getD 17 undef = .bool true := (hdone 0 _ rfl rfl).2 _ rfl
     exact wpOp_val (v := .bool false) (w' := wx) rfl rfl (by simp [execOp, Act.eval, s17, go_sem]) ⟨_, rfl, tab_put rfl hs rfl rfl, hS.same 3 rfl⟩
    ·
     have s18 : ax.tmps.getD 18 undef = .bool false := (hdone 0 _ rfl rfl).2 _ rfl
     exact wpOp_val (v := .bool false) (w' := wx) rfl rfl (by simp [execOp, Act.eval, s18]) ⟨_, rfl, tab_put rfl hs rfl rfl, hS.same 4 rfl⟩
    ·
     have hg : ax.tmps.getD 19 undef = .bool false := (hdone 0 _ rfl rfl).2 _ rfl
     have hr := hS.rowNi 1 rfl
     exact wpOp_valw (v := .agg #[.int .u64 p, .int .u64 q, .int .i64 r, .int .i64 t]) (w' := wx) rfl (wanted_yes 4 19 false hg (by rw [hs]; omega) rfl rfl rfl rfl) (exec_loadR 60 _ rfl g2 0 (show ax.eval (.tmp 7) = .pointer (some ⟨g2, 0, none⟩) from t7) hr [.int .u64 p, .int .u64 q, .int .i64 r, .int .i64 t] rfl _ Try.underlying60 rfl (by kernel_rfl)) ⟨_, rfl, tab_put rfl hs rfl rfl, hS.same 5 rfl⟩
    ·
     have hg : ax.tmps.getD 19 undef = .bool false := (hdone 0 _ rfl rfl).2 _ rfl
     exact wpOp_valw (v := .int .u64 u) (w' := wx) rfl (wanted_yes 4 19 false hg (by rw [hs]; omega) rfl rfl rfl rfl) (by simp [execOp, Act.eval, t4]) ⟨_, rfl, tab_put rfl hs rfl rfl, hS.same 6 rfl⟩
    ·
     have hg : ax.tmps.getD 19 undef = .bool false := (hdone 2 _ rfl rfl).2 _ rfl
     have s20 : ax.tmps.getD 20 undef = .agg #[.int .u64 p, .int .u64 q, .int .i64 r, .int .i64 t] := (hdone 0 _ rfl rfl).2 _ rfl
     have s21 : ax.tmps.getD 21 undef = .int .u64 u := (hdone 1 _ rfl rfl).2 _ rfl
     refine wpOp_callw (args := #[.agg #[.int .u64 p, .int .u64 q, .int .i64 r, .int .i64 t], .int .u64 u]) rfl (wanted_yes 4 19 false hg (by rw [hs]; omega) rfl rfl rfl rfl) (exec_call rfl rfl rfl (args2 (show ax.eval (.tmp 20) = .agg #[.int .u64 p, .int .u64 q, .int .i64 r, .int .i64 t] from s20) (show ax.eval (.tmp 21) = .int .u64 u from s21)) Try.func36 (by decide +kernel) rfl) ?_
     · refine (has_n p q r t u wx).mono ?_
       rintro e w' ⟨rfl, b9⟩
       exact ⟨_, rfl, _, rfl, tab_put rfl hs rfl (congrArg Value.bool Ffk2.out), hS.quiet 7 rfl b9⟩
    ·
     have hg : ax.tmps.getD 19 undef = .bool false := (hdone 1 _ rfl rfl).2 _ rfl
     have s22 : ax.tmps.getD 22 undef = .bool true := (hdone 0 _ rfl rfl).2 _ rfl
     exact wpOp_valw (v := .bool false) (w' := wx) rfl (wanted_yes 4 19 false hg (by rw [hs]; omega) rfl rfl rfl rfl) (by simp [execOp, Act.eval, s22, go_sem]) ⟨_, rfl, tab_put rfl hs rfl rfl, hS.same 8 rfl⟩
    ·
     have s19 : ax.tmps.getD 19 undef = .bool false := (hdone 0 _ rfl rfl).2 _ rfl
     have s23 : ax.tmps.getD 23 undef = .bool false := (hdone 1 _ rfl rfl).2 _ rfl
     exact wpOp_val (v := .bool false) (w' := wx) rfl rfl (by simp [execOp, Act.eval, s19, s23, go_sem]) ⟨_, rfl, tab_put rfl hs rfl rfl, hS.same 9 rfl⟩
  intro a2 w2 fl d2 z2 rest2 R2 hfl hS
  obtain ⟨B2, n2, hBs, hAs, hPs⟩ := hS.finish hfl rfl
  replace d2 := d2.trans d1
  replace z2 := z2.trans z1
  obtain ⟨⟨l_g1_2, b_g1_2⟩, ⟨l_g2_2, b_g2_2⟩, -⟩ := hBs
  replace l_g1_2 : g1 < w1.heap.size := l_g1_2
  replace l_g2_2 : g2 < w1.heap.size := l_g2_2
  have s0_2 := (rest2 0 (not_of (by kernel_rfl))).trans s0_1
  have s3_2 := (rest2 3 (not_of (by kernel_rfl))).trans s3_1
  have s4_2 := (rest2 4 (not_of (by kernel_rfl))).trans s4_1
  have s6_2 := (rest2 6 (not_of (by kernel_rfl))).trans u_g1
  have s7_2 := (rest2 7 (not_of (by kernel_rfl))).trans u_g2
  have s10_2 := (rest2 10 (not_of (by kernel_rfl))).trans s10_1
  have s24_2 : a2.tmps.getD 24 undef = .bool false := R2 9 _ rfl
  clear R2 rest2 hS hfl hPs hAs
  clear u_g1 u_g2 s0_1 s3_1 s4_1 s10_1 b_g1_1 b_g2_1 d1 z1
  refine wp_cond_false (show a2.tmps.getD 24 undef = .bool false from s24_2) ?_
  refine wp_skip ?_
  refine wp_seq ?_
  cases fk3 : holdsB cc 64 v u
  case false =>
   have Ffk3 := Lib.hid fk3; clear fk3
   refine wp_regx (SX W w2.heap.size [⟨g1, 60, (cR a b c d), none, #[]⟩, ⟨g2, 60, (cR p q r t), none, #[]⟩] []) (TabX [fun vx => vx = .int .i8 cc, fun vx => vx = .int .u64 v, fun vx => vx = .int .u64 u, fun vx => vx = .tuple #[.bool (holdsB cc 64 v u), .int .i64 (holdsE cc 64)], fun vx => vx = .tuple #[.bool (holdsB cc 64 v u), .int .i64 (holdsE cc 64)], fun vx => vx = .bool false, fun vx => vx = .int .i64 (holdsE cc 64), fun vx => vx = .bool false, fun vx => vx = .int .i64 (holdsE cc 64)]) (by kernel_rfl) (back_of (by kernel_rfl)) (dst_of (by kernel_rfl)) (in_ofz (by kernel_rfl) z2) (fun fl w1 hfl hw => SX.start' hw B2 hfl rfl ⟨b_g1_2, b_g2_2, trivial⟩) ?h7 ?_
   case h7 =>
     intro ix ox ax wx fl ho hS hfi clo hsz hrest hdone hund
     have t0 := (hrest 0 (not_of (by kernel_rfl))).trans s0_2
     have t3 := (hrest 3 (not_of (by kernel_rfl))).trans s3_2
     have t4 := (hrest 4 (not_of (by kernel_rfl))).trans s4_2
     have hs : ax.tmps.size = 69 := hsz.trans z2
     have hi : ix < 9 := (Array.getElem?_eq_some_iff.1 ho).1
     clear hrest hsz hund
     obtain rfl | rfl | rfl | rfl | rfl | rfl | rfl | rfl | rfl : ix = 0 ∨ ix = 1 ∨ ix = 2 ∨ ix = 3 ∨ ix = 4 ∨ ix = 5 ∨ ix = 6 ∨ ix = 7 ∨ ix = 8 := by omega
     all_goals obtain rfl := Option.some.inj (show some _ = some ox from ho)
     ·
      exact wpOp_val (v := .int .i8 cc) (w' := wx) rfl rfl (by simp [execOp, Act.eval, t0]) ⟨_, rfl, tab_put rfl hs rfl rfl, hS.same 0 rfl⟩
     ·
      exact wpOp_val (v := .int .u64 v) (w' := wx) rfl rfl (by simp [execOp, Act.eval, t3]) ⟨_, rfl, tab_put rfl hs rfl rfl, hS.same 1 rfl⟩
     ·
      exact wpOp_val (v := .int .u64 u) (w' := wx) rfl rfl (by simp [execOp, Act.eval, t4]) ⟨_, rfl, tab_put rfl hs rfl rfl, hS.same 2 rfl⟩
     ·
      have s27 : ax.tmps.getD 27 undef = .int .i8 cc := (hdone 0 _ rfl rfl).2 _ rfl
      have s28 : ax.tmps.getD 28 undef = .int .u64 v := (hdone 1 _ rfl rfl).2 _ rfl
      have s29 : ax.tmps.getD 29 undef = .int .u64 u := (hdone 2 _ rfl rfl).2 _ rfl
      refine wpOp_call (args := #[.int .i8 cc, .int .i8 64, .int .u64 v, .int .u64 u]) rfl rfl (exec_call rfl rfl rfl (args4 (show ax.eval (.tmp 27) = .int .i8 cc from s27) (show ax.eval (.const (.int .i8 64)) = .int .i8 64 from rfl) (show ax.eval (.tmp 28) = .int .u64 v from s28) (show ax.eval (.tmp 29) = .int .u64 u from s29)) Try.func49 (by decide +kernel) rfl) ?_
      · refine (holds_any cc 64 v u wx HN.out.1.1 HN.out.1.2 HN.out.2.1 HN.out.2.2).mono ?_
        rintro e w' ⟨rfl, rfl⟩
        exact ⟨_, rfl, _, rfl, tab_put rfl hs rfl rfl, hS.quiet 3 rfl (Below.refl _ _)⟩
     ·
      have s30 : ax.tmps.getD 30 undef = .tuple #[.bool (holdsB cc 64 v u), .int .i64 (holdsE cc 64)] := (hdone 0 _ rfl rfl).2 _ rfl
      exact wpOp_val (v := .tuple #[.bool (holdsB cc 64 v u), .int .i64 (holdsE cc 64)]) (w' := wx) rfl rfl (by simp [execOp, Act.eval, s30]) ⟨_, rfl, tab_put rfl hs rfl rfl, hS.same 4 rfl⟩
     ·
      have s26 : ax.tmps.getD 26 undef = .tuple #[.bool (holdsB cc 64 v u), .int .i64 (holdsE cc 64)] := (hdone 0 _ rfl rfl).2 _ rfl
      exact wpOp_val (v := .bool (holdsB cc 64 v u)) (w' := wx) rfl rfl (by simp [execOp, Act.eval, s26, go_sem]) ⟨_, rfl, tab_put rfl hs rfl (congrArg Value.bool Ffk3.out), hS.same 5 rfl⟩
     ·
      have s26 : ax.tmps.getD 26 undef = .tuple #[.bool (holdsB cc 64 v u), .int .i64 (holdsE cc 64)] := (hdone 0 _ rfl rfl).2 _ rfl
      exact wpOp_val (v := .int .i64 (holdsE cc 64)) (w' := wx) rfl rfl (by simp [execOp, Act.eval, s26, go_sem]) ⟨_, rfl, tab_put rfl hs rfl rfl, hS.same 6 rfl⟩
     ·
      have s31 : ax.tmps.getD 31 undef = .bool false := (hdone 0 _ rfl rfl).2 _ rfl
      exact wpOp_val (v := .bool false) (w' := wx) rfl rfl (by simp [execOp, Act.eval, s31]) ⟨_, rfl, tab_put rfl hs rfl rfl, hS.same 7 rfl⟩
     ·
      have s32 : ax.tmps.getD 32 undef = .int .i64 (holdsE cc 64) := (hdone 0 _ rfl rfl).2 _ rfl
      exact wpOp_val (v := .int .i64 (holdsE cc 64)) (w' := wx) rfl rfl (by simp [execOp, Act.eval, s32]) ⟨_, rfl, tab_put rfl hs rfl rfl, hS.same 8 rfl⟩
   intro a3 w3 fl d3 z3 rest3 R3 hfl hS
   obtain ⟨B3, n3, hBs, hAs, hPs⟩ := hS.finish hfl rfl
   replace d3 := d3.trans d2
   replace z3 := z3.trans z2
   obtain ⟨⟨-, b_g1_3⟩, ⟨-, b_g2_3⟩, -⟩ := hBs
   have s0_3 := (rest3 0 (not_of (by kernel_rfl))).trans s0_2
   have s3_3 := (rest3 3 (not_of (by kernel_rfl))).trans s3_2
   have s6_3 := (rest3 6 (not_of (by kernel_rfl))).trans s6_2
   have s7_3 := (rest3 7 (not_of (by kernel_rfl))).trans s7_2
   have s10_3 := (rest3 10 (not_of (by kernel_rfl))).trans s10_2
   have s11_3 : a3.tmps.getD 11 undef = .bool false := R3 7 _ rfl
   have s12_3 : a3.tmps.getD 12 undef = .int .i64 (holdsE cc 64) := R3 8 _ rfl
   clear R3 rest3 hS hfl hPs hAs
   clear s0_2 s3_2 s4_2 s6_2 s7_2 s10_2 s24_2 b_g1_2 b_g2_2 d2 z2
   refine wp_seq ?_
   cases fk4 : Rg.givB cc ⟨⟨a, b⟩, ⟨c, d⟩⟩ ⟨⟨p, q⟩, ⟨r, t⟩⟩
   case false =>
    have Ffk4 := Lib.hid fk4; clear fk4
    refine wp_regx (SX W w3.heap.size [⟨g1, 60, (cR a b c d), none, #[]⟩, ⟨g2, 60, (cR p q r t), none, #[]⟩] [⟨7, 13, 60, (cR 0 0 0 0), some 8, (cR ((Rg.giv cc ⟨⟨a, b⟩, ⟨c, d⟩⟩ ⟨⟨p, q⟩, ⟨r, t⟩⟩).u.lo) ((Rg.giv cc ⟨⟨a, b⟩, ⟨c, d⟩⟩ ⟨⟨p, q⟩, ⟨r, t⟩⟩).u.hi) ((Rg.giv cc ⟨⟨a, b⟩, ⟨c, d⟩⟩ ⟨⟨p, q⟩, ⟨r, t⟩⟩).s.lo) ((Rg.giv cc ⟨⟨a, b⟩, ⟨c, d⟩⟩ ⟨⟨p, q⟩, ⟨r, t⟩⟩).s.hi))⟩]) (TabX [fun vx => vx = .int .i8 cc, fun vx => vx = .agg #[.int .u64 a, .int .u64 b, .int .i64 c, .int .i64 d], fun vx => vx = .agg #[.int .u64 p, .int .u64 q, .int .i64 r, .int .i64 t], fun vx => vx = .tuple #[.agg #[.int .u64 ((Rg.giv cc ⟨⟨a, b⟩, ⟨c, d⟩⟩ ⟨⟨p, q⟩, ⟨r, t⟩⟩).u.lo), .int .u64 ((Rg.giv cc ⟨⟨a, b⟩, ⟨c, d⟩⟩ ⟨⟨p, q⟩, ⟨r, t⟩⟩).u.hi), .int .i64 ((Rg.giv cc ⟨⟨a, b⟩, ⟨c, d⟩⟩ ⟨⟨p, q⟩, ⟨r, t⟩⟩).s.lo), .int .i64 ((Rg.giv cc ⟨⟨a, b⟩, ⟨c, d⟩⟩ ⟨⟨p, q⟩, ⟨r, t⟩⟩).s.hi)], .bool (Rg.givB cc ⟨⟨a, b⟩, ⟨c, d⟩⟩ ⟨⟨p, q⟩, ⟨r, t⟩⟩)], fun vx => vx = .tuple #[.agg #[.int .u64 ((Rg.giv cc ⟨⟨a, b⟩, ⟨c, d⟩⟩ ⟨⟨p, q⟩, ⟨r, t⟩⟩).u.lo), .int .u64 ((Rg.giv cc ⟨⟨a, b⟩, ⟨c, d⟩⟩ ⟨⟨p, q⟩, ⟨r, t⟩⟩).u.hi), .int .i64 ((Rg.giv cc ⟨⟨a, b⟩, ⟨c, d⟩⟩ ⟨⟨p, q⟩, ⟨r, t⟩⟩).s.lo), .int .i64 ((Rg.giv cc ⟨⟨a, b⟩, ⟨c, d⟩⟩ ⟨⟨p, q⟩, ⟨r, t⟩⟩).s.hi)], .bool (Rg.givB cc ⟨⟨a, b⟩, ⟨c, d⟩⟩ ⟨⟨p, q⟩, ⟨r, t⟩⟩)], fun vx => vx = .agg #[.int .u64 ((Rg.giv cc ⟨⟨a, b⟩, ⟨c, d⟩⟩ ⟨⟨p, q⟩, ⟨r, t⟩⟩).u.lo), .int .u64 ((Rg.giv cc ⟨⟨a, b⟩, ⟨c, d⟩⟩ ⟨⟨p, q⟩, ⟨r, t⟩⟩).u.hi), .int .i64 ((Rg.giv cc ⟨⟨a, b⟩, ⟨c, d⟩⟩ ⟨⟨p, q⟩, ⟨r, t⟩⟩).s.lo), .int .i64 ((Rg.giv cc ⟨⟨a, b⟩, ⟨c, d⟩⟩ ⟨⟨p, q⟩, ⟨r, t⟩⟩).s.hi)], fun vx => vx = .bool false, fun _ => True, fun _ => True, fun vx => vx = .bool false]) (by kernel_rfl) (back_of (by kernel_rfl)) (dst_of (by kernel_rfl)) (in_ofz (by kernel_rfl) z3) (fun fl w1 hfl hw => SX.start' hw B3 hfl rfl ⟨b_g1_3, b_g2_3, trivial⟩) ?h8 ?_
    case h8 =>
      intro ix ox ax wx fl ho hS hfi clo hsz hrest hdone hund
      have t0 := (hrest 0 (not_of (by kernel_rfl))).trans s0_3
      have t6 := (hrest 6 (not_of (by kernel_rfl))).trans s6_3
      have t7 := (hrest 7 (not_of (by kernel_rfl))).trans s7_3
      have hs : ax.tmps.size = 69 := hsz.trans z3
      have hi : ix < 10 := (Array.getElem?_eq_some_iff.1 ho).1
      clear hrest hsz hund
      obtain rfl | rfl | rfl | rfl | rfl | rfl | rfl | rfl | rfl | rfl : ix = 0 ∨ ix = 1 ∨ ix = 2 ∨ ix = 3 ∨ ix = 4 ∨ ix = 5 ∨ ix = 6 ∨ ix = 7 ∨ ix = 8 ∨ ix = 9 := by omega
      all_goals obtain rfl := Option.some.inj (show some _ = some ox from ho)
      ·
       exact wpOp_val (v := .int .i8 cc) (w' := wx) rfl rfl (by simp [execOp, Act.eval, t0]) ⟨_, rfl, tab_put rfl hs rfl rfl, hS.same 0 rfl⟩
      ·
       have hr := hS.rowNi 0 rfl
       exact wpOp_val (v := .agg #[.int .u64 a, .int .u64 b, .int .i64 c, .int .i64 d]) (w' := wx) rfl rfl (exec_loadR 60 _ rfl g1 0 (show ax.eval (.tmp 6) = .pointer (some ⟨g1, 0, none⟩) from t6) hr [.int .u64 a, .int .u64 b, .int .i64 c, .int .i64 d] rfl _ Try.underlying60 rfl (by kernel_rfl)) ⟨_, rfl, tab_put rfl hs rfl rfl, hS.same 1 rfl⟩
      ·
       have hr := hS.rowNi 1 rfl
       exact wpOp_val (v := .agg #[.int .u64 p, .int .u64 q, .int .i64 r, .int .i64 t]) (w' := wx) rfl rfl (exec_loadR 60 _ rfl g2 0 (show ax.eval (.tmp 7) = .pointer (some ⟨g2, 0, none⟩) from t7) hr [.int .u64 p, .int .u64 q, .int .i64 r, .int .i64 t] rfl _ Try.underlying60 rfl (by kernel_rfl)) ⟨_, rfl, tab_put rfl hs rfl rfl, hS.same 2 rfl⟩
      ·
       have s34 : ax.tmps.getD 34 undef = .int .i8 cc := (hdone 0 _ rfl rfl).2 _ rfl
       have s35 : ax.tmps.getD 35 undef = .agg #[.int .u64 a, .int .u64 b, .int .i64 c, .int .i64 d] := (hdone 1 _ rfl rfl).2 _ rfl
       have s36 : ax.tmps.getD 36 undef = .agg #[.int .u64 p, .int .u64 q, .int .i64 r, .int .i64 t] := (hdone 2 _ rfl rfl).2 _ rfl
       refine wpOp_call (args := #[.int .i8 cc, .agg #[.int .u64 a, .int .u64 b, .int .i64 c, .int .i64 d], .agg #[.int .u64 p, .int .u64 q, .int .i64 r, .int .i64 t]]) rfl rfl (exec_call rfl rfl rfl (args3 (show ax.eval (.tmp 34) = .int .i8 cc from s34) (show ax.eval (.tmp 35) = .agg #[.int .u64 a, .int .u64 b, .int .i64 c, .int .i64 d] from s35) (show ax.eval (.tmp 36) = .agg #[.int .u64 p, .int .u64 q, .int .i64 r, .int .i64 t] from s36)) Try.func24 (by decide +kernel) rfl) ?_
       · refine (given_n cc a b c d p q r t wx HA.out HB.out).mono ?_
         rintro e w' ⟨rfl, b9⟩
         exact ⟨_, rfl, _, rfl, tab_put rfl hs rfl rfl, hS.quiet 3 rfl b9⟩
      ·
       have s37 : ax.tmps.getD 37 undef = .tuple #[.agg #[.int .u64 ((Rg.giv cc ⟨⟨a, b⟩, ⟨c, d⟩⟩ ⟨⟨p, q⟩, ⟨r, t⟩⟩).u.lo), .int .u64 ((Rg.giv cc ⟨⟨a, b⟩, ⟨c, d⟩⟩ ⟨⟨p, q⟩, ⟨r, t⟩⟩).u.hi), .int .i64 ((Rg.giv cc ⟨⟨a, b⟩, ⟨c, d⟩⟩ ⟨⟨p, q⟩, ⟨r, t⟩⟩).s.lo), .int .i64 ((Rg.giv cc ⟨⟨a, b⟩, ⟨c, d⟩⟩ ⟨⟨p, q⟩, ⟨r, t⟩⟩).s.hi)], .bool (Rg.givB cc ⟨⟨a, b⟩, ⟨c, d⟩⟩ ⟨⟨p, q⟩, ⟨r, t⟩⟩)] := (hdone 0 _ rfl rfl).2 _ rfl
       exact wpOp_val (v := .tuple #[.agg #[.int .u64 ((Rg.giv cc ⟨⟨a, b⟩, ⟨c, d⟩⟩ ⟨⟨p, q⟩, ⟨r, t⟩⟩).u.lo), .int .u64 ((Rg.giv cc ⟨⟨a, b⟩, ⟨c, d⟩⟩ ⟨⟨p, q⟩, ⟨r, t⟩⟩).u.hi), .int .i64 ((Rg.giv cc ⟨⟨a, b⟩, ⟨c, d⟩⟩ ⟨⟨p, q⟩, ⟨r, t⟩⟩).s.lo), .int .i64 ((Rg.giv cc ⟨⟨a, b⟩, ⟨c, d⟩⟩ ⟨⟨p, q⟩, ⟨r, t⟩⟩).s.hi)], .bool (Rg.givB cc ⟨⟨a, b⟩, ⟨c, d⟩⟩ ⟨⟨p, q⟩, ⟨r, t⟩⟩)]) (w' := wx) rfl rfl (by (revert s37; generalize (.tuple #[.agg #[.int .u64 ((Rg.giv cc ⟨⟨a, b⟩, ⟨c, d⟩⟩ ⟨⟨p, q⟩, ⟨r, t⟩⟩).u.lo), .int .u64 ((Rg.giv cc ⟨⟨a, b⟩, ⟨c, d⟩⟩ ⟨⟨p, q⟩, ⟨r, t⟩⟩).u.hi), .int .i64 ((Rg.giv cc ⟨⟨a, b⟩, ⟨c, d⟩⟩ ⟨⟨p, q⟩, ⟨r, t⟩⟩).s.lo), .int .i64 ((Rg.giv cc ⟨⟨a, b⟩, ⟨c, d⟩⟩ ⟨⟨p, q⟩, ⟨r, t⟩⟩).s.hi)], .bool (Rg.givB cc ⟨⟨a, b⟩, ⟨c, d⟩⟩ ⟨⟨p, q⟩, ⟨r, t⟩⟩)] : Value) = y0; intro s37); simp [execOp, Act.eval, s37]) ⟨_, rfl, tab_put rfl hs rfl rfl, hS.same 4 rfl⟩
      ·
       have s33 : ax.tmps.getD 33 undef = .tuple #[.agg #[.int .u64 ((Rg.giv cc ⟨⟨a, b⟩, ⟨c, d⟩⟩ ⟨⟨p, q⟩, ⟨r, t⟩⟩).u.lo), .int .u64 ((Rg.giv cc ⟨⟨a, b⟩, ⟨c, d⟩⟩ ⟨⟨p, q⟩, ⟨r, t⟩⟩).u.hi), .int .i64 ((Rg.giv cc ⟨⟨a, b⟩, ⟨c, d⟩⟩ ⟨⟨p, q⟩, ⟨r, t⟩⟩).s.lo), .int .i64 ((Rg.giv cc ⟨⟨a, b⟩, ⟨c, d⟩⟩ ⟨⟨p, q⟩, ⟨r, t⟩⟩).s.hi)], .bool (Rg.givB cc ⟨⟨a, b⟩, ⟨c, d⟩⟩ ⟨⟨p, q⟩, ⟨r, t⟩⟩)] := (hdone 0 _ rfl rfl).2 _ rfl
       exact wpOp_val (v := .agg #[.int .u64 ((Rg.giv cc ⟨⟨a, b⟩, ⟨c, d⟩⟩ ⟨⟨p, q⟩, ⟨r, t⟩⟩).u.lo), .int .u64 ((Rg.giv cc ⟨⟨a, b⟩, ⟨c, d⟩⟩ ⟨⟨p, q⟩, ⟨r, t⟩⟩).u.hi), .int .i64 ((Rg.giv cc ⟨⟨a, b⟩, ⟨c, d⟩⟩ ⟨⟨p, q⟩, ⟨r, t⟩⟩).s.lo), .int .i64 ((Rg.giv cc ⟨⟨a, b⟩, ⟨c, d⟩⟩ ⟨⟨p, q⟩, ⟨r, t⟩⟩).s.hi)]) (w' := wx) rfl rfl (by simp [execOp, Act.eval, s33, go_sem]) ⟨_, rfl, tab_put rfl hs rfl rfl, hS.same 5 rfl⟩
      ·
       have s33 : ax.tmps.getD 33 undef = .tuple #[.agg #[.int .u64 ((Rg.giv cc ⟨⟨a, b⟩, ⟨c, d⟩⟩ ⟨⟨p, q⟩, ⟨r, t⟩⟩).u.lo), .int .u64 ((Rg.giv cc ⟨⟨a, b⟩, ⟨c, d⟩⟩ ⟨⟨p, q⟩, ⟨r, t⟩⟩).u.hi), .int .i64 ((Rg.giv cc ⟨⟨a, b⟩, ⟨c, d⟩⟩ ⟨⟨p, q⟩, ⟨r, t⟩⟩).s.lo), .int .i64 ((Rg.giv cc ⟨⟨a, b⟩, ⟨c, d⟩⟩ ⟨⟨p, q⟩, ⟨r, t⟩⟩).s.hi)], .bool (Rg.givB cc ⟨⟨a, b⟩, ⟨c, d⟩⟩ ⟨⟨p, q⟩, ⟨r, t⟩⟩)] := (hdone 0 _ rfl rfl).2 _ rfl
       exact wpOp_val (v := .bool (Rg.givB cc ⟨⟨a, b⟩, ⟨c, d⟩⟩ ⟨⟨p, q⟩, ⟨r, t⟩⟩)) (w' := wx) rfl rfl (by simp [execOp, Act.eval, s33, go_sem]) ⟨_, rfl, tab_put rfl hs rfl (congrArg Value.bool Ffk4.out), hS.same 6 rfl⟩
      ·
       refine wpOp_val (v := .pointer (some ⟨wx.heap.size, 0, none⟩)) (w' := wx.alloc (.cells #[.int .u64 0, .int .u64 0, .int .i64 0, .int .i64 0] 60)) rfl rfl ?_ ⟨_, rfl, trivial, hS.alloc 7 13 60 #[.int .u64 0, .int .u64 0, .int .i64 0, .int .i64 0] [] [] (some 8) #[.int .u64 ((Rg.giv cc ⟨⟨a, b⟩, ⟨c, d⟩⟩ ⟨⟨p, q⟩, ⟨r, t⟩⟩).u.lo), .int .u64 ((Rg.giv cc ⟨⟨a, b⟩, ⟨c, d⟩⟩ ⟨⟨p, q⟩, ⟨r, t⟩⟩).u.hi), .int .i64 ((Rg.giv cc ⟨⟨a, b⟩, ⟨c, d⟩⟩ ⟨⟨p, q⟩, ⟨r, t⟩⟩).s.lo), .int .i64 ((Rg.giv cc ⟨⟨a, b⟩, ⟨c, d⟩⟩ ⟨⟨p, q⟩, ⟨r, t⟩⟩).s.hi)] rfl rfl rfl (by rw [hs]; omega) (not_yet clo hfi (by kernel_rfl))⟩
       · simp [execOp, Act.eval, go_sem]
      ·
       have hd13 := (hdone 0 _ rfl rfl).1
       obtain ⟨g3, s13, n13, r13⟩ := SX.rowA hS [] [] 7 13 60 _ _ 8 rfl hd13 hfi
       have s13 : ax.tmps.getD 13 undef = .pointer (some ⟨g3, 0, none⟩) := s13
       have s38 : ax.tmps.getD 38 undef = .agg #[.int .u64 ((Rg.giv cc ⟨⟨a, b⟩, ⟨c, d⟩⟩ ⟨⟨p, q⟩, ⟨r, t⟩⟩).u.lo), .int .u64 ((Rg.giv cc ⟨⟨a, b⟩, ⟨c, d⟩⟩ ⟨⟨p, q⟩, ⟨r, t⟩⟩).u.hi), .int .i64 ((Rg.giv cc ⟨⟨a, b⟩, ⟨c, d⟩⟩ ⟨⟨p, q⟩, ⟨r, t⟩⟩).s.lo), .int .i64 ((Rg.giv cc ⟨⟨a, b⟩, ⟨c, d⟩⟩ ⟨⟨p, q⟩, ⟨r, t⟩⟩).s.hi)] := (hdone 1 _ rfl rfl).2 _ rfl
       have hr : wx.heap[g3]? = some (.cells #[.int .u64 0, .int .u64 0, .int .i64 0, .int .i64 0] 60 (0, 0)) := r13
       exact wpOp_skp (w' := wx.setRow g3 #[.int .u64 ((Rg.giv cc ⟨⟨a, b⟩, ⟨c, d⟩⟩ ⟨⟨p, q⟩, ⟨r, t⟩⟩).u.lo), .int .u64 ((Rg.giv cc ⟨⟨a, b⟩, ⟨c, d⟩⟩ ⟨⟨p, q⟩, ⟨r, t⟩⟩).u.hi), .int .i64 ((Rg.giv cc ⟨⟨a, b⟩, ⟨c, d⟩⟩ ⟨⟨p, q⟩, ⟨r, t⟩⟩).s.lo), .int .i64 ((Rg.giv cc ⟨⟨a, b⟩, ⟨c, d⟩⟩ ⟨⟨p, q⟩, ⟨r, t⟩⟩).s.hi)]) rfl rfl (exec_storeR 60 _ _ rfl g3 #[.int .u64 ((Rg.giv cc ⟨⟨a, b⟩, ⟨c, d⟩⟩ ⟨⟨p, q⟩, ⟨r, t⟩⟩).u.lo), .int .u64 ((Rg.giv cc ⟨⟨a, b⟩, ⟨c, d⟩⟩ ⟨⟨p, q⟩, ⟨r, t⟩⟩).u.hi), .int .i64 ((Rg.giv cc ⟨⟨a, b⟩, ⟨c, d⟩⟩ ⟨⟨p, q⟩, ⟨r, t⟩⟩).s.lo), .int .i64 ((Rg.giv cc ⟨⟨a, b⟩, ⟨c, d⟩⟩ ⟨⟨p, q⟩, ⟨r, t⟩⟩).s.hi)] (show ax.eval (.tmp 13) = .pointer (some ⟨g3, 0, none⟩) from s13) (show ax.eval (.tmp 38) = .agg #[.int .u64 ((Rg.giv cc ⟨⟨a, b⟩, ⟨c, d⟩⟩ ⟨⟨p, q⟩, ⟨r, t⟩⟩).u.lo), .int .u64 ((Rg.giv cc ⟨⟨a, b⟩, ⟨c, d⟩⟩ ⟨⟨p, q⟩, ⟨r, t⟩⟩).u.hi), .int .i64 ((Rg.giv cc ⟨⟨a, b⟩, ⟨c, d⟩⟩ ⟨⟨p, q⟩, ⟨r, t⟩⟩).s.lo), .int .i64 ((Rg.giv cc ⟨⟨a, b⟩, ⟨c, d⟩⟩ ⟨⟨p, q⟩, ⟨r, t⟩⟩).s.hi)] from s38) hr (by kernel_rfl) rfl (by simp [Value.oneCell'])) ⟨undef, rfl, trivial, hS.storeA 8 7 13 60 #[.int .u64 0, .int .u64 0, .int .i64 0, .int .i64 0] #[.int .u64 ((Rg.giv cc ⟨⟨a, b⟩, ⟨c, d⟩⟩ ⟨⟨p, q⟩, ⟨r, t⟩⟩).u.lo), .int .u64 ((Rg.giv cc ⟨⟨a, b⟩, ⟨c, d⟩⟩ ⟨⟨p, q⟩, ⟨r, t⟩⟩).u.hi), .int .i64 ((Rg.giv cc ⟨⟨a, b⟩, ⟨c, d⟩⟩ ⟨⟨p, q⟩, ⟨r, t⟩⟩).s.lo), .int .i64 ((Rg.giv cc ⟨⟨a, b⟩, ⟨c, d⟩⟩ ⟨⟨p, q⟩, ⟨r, t⟩⟩).s.hi)] [] [] rfl B3.size hd13 g3 s13 (by decide) rfl (stored_setRow wx g3 _ _ _ hr)⟩
      ·
       have s39 : ax.tmps.getD 39 undef = .bool false := (hdone 0 _ rfl rfl).2 _ rfl
       exact wpOp_val (v := .bool false) (w' := wx) rfl rfl (by simp [execOp, Act.eval, s39]) ⟨_, rfl, tab_put rfl hs rfl rfl, hS.same 9 rfl⟩
    intro a4 w4 fl d4 z4 rest4 R4 hfl hS
    obtain ⟨B4, n4, hBs, hAs, hPs⟩ := hS.finish hfl rfl
    replace d4 := d4.trans d3
    replace z4 := z4.trans z3
    obtain ⟨⟨-, b_g1_4⟩, ⟨-, b_g2_4⟩, -⟩ := hBs
    obtain ⟨⟨g3, u_g3, q_g3, b_g3_4⟩, -⟩ := hAs
    replace u_g3 : a4.tmps.getD 13 undef = .pointer (some ⟨g3, 0, none⟩) := u_g3
    have m_g3 : w3.heap.size ≤ g3 := q_g3
    replace q_g3 : W.heap.size ≤ g3 := Nat.le_trans B3.size q_g3
    have s3_4 := (rest4 3 (not_of (by kernel_rfl))).trans s3_3
    have s6_4 := (rest4 6 (not_of (by kernel_rfl))).trans s6_3
    have s10_4 := (rest4 10 (not_of (by kernel_rfl))).trans s10_3
    have s11_4 := (rest4 11 (not_of (by kernel_rfl))).trans s11_3
    have s12_4 := (rest4 12 (not_of (by kernel_rfl))).trans s12_3
    have s14_4 : a4.tmps.getD 14 undef = .bool false := R4 9 _ rfl
    clear R4 rest4 hS hfl hPs
    clear s0_3 s3_3 s6_3 s7_3 s10_3 s11_3 s12_3 b_g1_3 b_g2_3 d3 z3
    refine wp_seq ?_
    refine wp_seq ?_
    cases fk5 : (holdsE cc 64) != 0
    case false =>
     have Ffk5 := Lib.hid fk5; clear fk5
     refine wp_regx (SX W w4.heap.size [⟨g1, 60, (cR a b c d), none, #[]⟩, ⟨g2, 60, (cR p q r t), none, #[]⟩, ⟨g3, 60, (cR ((Rg.giv cc ⟨⟨a, b⟩, ⟨c, d⟩⟩ ⟨⟨p, q⟩, ⟨r, t⟩⟩).u.lo) ((Rg.giv cc ⟨⟨a, b⟩, ⟨c, d⟩⟩ ⟨⟨p, q⟩, ⟨r, t⟩⟩).u.hi) ((Rg.giv cc ⟨⟨a, b⟩, ⟨c, d⟩⟩ ⟨⟨p, q⟩, ⟨r, t⟩⟩).s.lo) ((Rg.giv cc ⟨⟨a, b⟩, ⟨c, d⟩⟩ ⟨⟨p, q⟩, ⟨r, t⟩⟩).s.hi)), none, #[]⟩] []) (TabX [fun vx => vx = .int .i64 (holdsE cc 64), fun vx => vx = .bool false]) (by kernel_rfl) (back_of (by kernel_rfl)) (dst_of (by kernel_rfl)) (in_ofz (by kernel_rfl) z4) (fun fl w1 hfl hw => SX.start' hw B4 hfl rfl ⟨b_g1_4, b_g2_4, b_g3_4, trivial⟩) ?h9 ?_
     case h9 =>
       intro ix ox ax wx fl ho hS hfi clo hsz hrest hdone hund
       have t12 := (hrest 12 (not_of (by kernel_rfl))).trans s12_4
       have hs : ax.tmps.size = 69 := hsz.trans z4
       have hi : ix < 2 := (Array.getElem?_eq_some_iff.1 ho).1
       clear hrest hsz hund
       obtain rfl | rfl : ix = 0 ∨ ix = 1 := by omega
       all_goals obtain rfl := Option.some.inj (show some _ = some ox from ho)
       ·
        exact wpOp_val (v := .int .i64 (holdsE cc 64)) (w' := wx) rfl rfl (by simp [execOp, Act.eval, t12]) ⟨_, rfl, tab_put rfl hs rfl rfl, hS.same 0 rfl⟩
       ·
        have s40 : ax.tmps.getD 40 undef = .int .i64 (holdsE cc 64) := (hdone 0 _ rfl rfl).2 _ rfl
        exact wpOp_val (v := .bool ((holdsE cc 64) != 0)) (w' := wx) rfl rfl (by (simp [execOp, Act.eval, s40, go_sem]; try (simp only [IntKind.wrap_i64, wrap64]))) ⟨_, rfl, tab_put rfl hs rfl (congrArg Value.bool Ffk5.out), hS.same 1 rfl⟩
     intro a5 w5 fl d5 z5 rest5 R5 hfl hS
     obtain ⟨B5, n5, hBs, hAs, hPs⟩ := hS.finish hfl rfl
     replace d5 := d5.trans d4
     replace z5 := z5.trans z4
     obtain ⟨⟨-, b_g1_5⟩, ⟨-, b_g2_5⟩, ⟨l_g3_5, b_g3_5⟩, -⟩ := hBs
     replace l_g3_5 : g3 < w4.heap.size := l_g3_5
     have s3_5 := (rest5 3 (not_of (by kernel_rfl))).trans s3_4
     have s6_5 := (rest5 6 (not_of (by kernel_rfl))).trans s6_4
     have s10_5 := (rest5 10 (not_of (by kernel_rfl))).trans s10_4
     have s11_5 := (rest5 11 (not_of (by kernel_rfl))).trans s11_4
     have s13_5 := (rest5 13 (not_of (by kernel_rfl))).trans u_g3
     have s14_5 := (rest5 14 (not_of (by kernel_rfl))).trans s14_4
     have s41_5 : a5.tmps.getD 41 undef = .bool false := R5 1 _ rfl
     clear R5 rest5 hS hfl hPs hAs
     clear u_g3 s3_4 s6_4 s10_4 s11_4 s12_4 s14_4 b_g1_4 b_g2_4 b_g3_4 d4 z4
     refine wp_cond_false (show a5.tmps.getD 41 undef = .bool false from s41_5) ?_
     refine wp_skip ?_
     refine wp_seq ?_
     refine wp_regx (SX W w5.heap.size [⟨g1, 60, (cR a b c d), none, #[]⟩, ⟨g2, 60, (cR p q r t), none, #[]⟩, ⟨g3, 60, (cR ((Rg.giv cc ⟨⟨a, b⟩, ⟨c, d⟩⟩ ⟨⟨p, q⟩, ⟨r, t⟩⟩).u.lo) ((Rg.giv cc ⟨⟨a, b⟩, ⟨c, d⟩⟩ ⟨⟨p, q⟩, ⟨r, t⟩⟩).u.hi) ((Rg.giv cc ⟨⟨a, b⟩, ⟨c, d⟩⟩ ⟨⟨p, q⟩, ⟨r, t⟩⟩).s.lo) ((Rg.giv cc ⟨⟨a, b⟩, ⟨c, d⟩⟩ ⟨⟨p, q⟩, ⟨r, t⟩⟩).s.hi)), none, #[]⟩] []) (TabX [fun vx => vx = .bool false, fun vx => vx = .bool true, fun vx => vx = .bool true, fun vx => vx = undef, fun vx => vx = undef, fun vx => vx = undef, fun vx => vx = undef, fun vx => vx = undef, fun vx => vx = undef, fun vx => vx = .bool true, fun vx => vx = .bool true, fun vx => vx = .bool false, fun vx => vx = .bool true, fun vx => vx = .bool true, fun vx => vx = undef, fun vx => vx = undef, fun vx => vx = undef, fun vx => vx = .bool true, fun vx => vx = .bool true, fun vx => vx = .bool true, fun vx => vx = .bool true, fun vx => vx = .bool true, fun vx => vx = .bool true]) (by kernel_rfl) (back_of (by kernel_rfl)) (dst_of (by kernel_rfl)) (in_ofz (by kernel_rfl) z5) (fun fl w1 hfl hw => SX.start' hw B5 hfl rfl ⟨b_g1_5, b_g2_5, b_g3_5, trivial⟩) ?h10 ?_
     case h10 =>
       intro ix ox ax wx fl ho hS hfi clo hsz hrest hdone hund
       have t3 := (hrest 3 (not_of (by kernel_rfl))).trans s3_5
       have t6 := (hrest 6 (not_of (by kernel_rfl))).trans s6_5
       have t11 := (hrest 11 (not_of (by kernel_rfl))).trans s11_5
       have t13 := (hrest 13 (not_of (by kernel_rfl))).trans s13_5
       have t14 := (hrest 14 (not_of (by kernel_rfl))).trans s14_5
       have hs : ax.tmps.size = 69 := hsz.trans z5
       have hi : ix < 23 := (Array.getElem?_eq_some_iff.1 ho).1
       clear hrest hsz hund
       obtain rfl | rfl | rfl | rfl | rfl | rfl | rfl | rfl | rfl | rfl | rfl | rfl | rfl | rfl | rfl | rfl | rfl | rfl | rfl | rfl | rfl | rfl | rfl : ix = 0 ∨ ix = 1 ∨ ix = 2 ∨ ix = 3 ∨ ix = 4 ∨ ix = 5 ∨ ix = 6 ∨ ix = 7 ∨ ix = 8 ∨ ix = 9 ∨ ix = 10 ∨ ix = 11 ∨ ix = 12 ∨ ix = 13 ∨ ix = 14 ∨ ix = 15 ∨ ix = 16 ∨ ix = 17 ∨ ix = 18 ∨ ix = 19 ∨ ix = 20 ∨ ix = 21 ∨ ix = 22 := by omega
       all_goals obtain rfl := Option.some.inj (show some _ = some ox from ho)
       ·
        exact wpOp_val (v := .bool false) (w' := wx) rfl rfl (by simp [execOp, Act.eval, t11]) ⟨_, rfl, tab_put rfl hs rfl rfl, hS.same 0 rfl⟩
       ·
        have s47 : ax.tmps.getD 47 undef = .bool false := (hdone 0 _ rfl rfl).2 _ rfl
        exact wpOp_val (v := .bool true) (w' := wx) rfl rfl (by simp [execOp, Act.eval, s47, go_sem]) ⟨_, rfl, tab_put rfl hs rfl rfl, hS.same 1 rfl⟩
       ·
        have s48 : ax.tmps.getD 48 undef = .bool true := (hdone 0 _ rfl rfl).2 _ rfl
        exact wpOp_val (v := .bool true) (w' := wx) rfl rfl (by simp [execOp, Act.eval, s48]) ⟨_, rfl, tab_put rfl hs rfl rfl, hS.same 2 rfl⟩
       ·
        have hg : ax.tmps.getD 49 undef = .bool true := (hdone 0 _ rfl rfl).2 _ rfl
        exact wpOp_no rfl (wanted_no 2 49 true hg (by rw [hs]; omega) rfl rfl rfl rfl) ⟨_, rfl, tab_put rfl hs rfl rfl, hS.same 3 rfl⟩
       ·
        have hg : ax.tmps.getD 49 undef = .bool true := (hdone 1 _ rfl rfl).2 _ rfl
        exact wpOp_no rfl (wanted_no 2 49 true hg (by rw [hs]; omega) rfl rfl rfl rfl) ⟨_, rfl, tab_put rfl hs rfl rfl, hS.same 4 rfl⟩
       ·
        have hg : ax.tmps.getD 51 undef = (bif false then .bool false else undef) := (hdone 0 _ rfl rfl).2 _ rfl
        exact wpOp_no rfl (Eq.trans (wanted_cond 4 51 false false true hg (by rw [hs]; omega) rfl rfl rfl) rfl) ⟨_, rfl, tab_put rfl hs rfl rfl, hS.same 5 rfl⟩
       ·
        have hg : ax.tmps.getD 51 undef = (bif false then .bool false else undef) := (hdone 0 _ rfl rfl).2 _ rfl
        exact wpOp_no rfl (Eq.trans (wanted_cond 4 51 false false true hg (by rw [hs]; omega) rfl rfl rfl) rfl) ⟨_, rfl, tab_put rfl hs rfl rfl, hS.same 6 rfl⟩
       ·
        have hg : ax.tmps.getD 51 undef = (bif false then .bool false else undef) := (hdone 2 _ rfl rfl).2 _ rfl
        exact wpOp_no rfl (Eq.trans (wanted_cond 4 51 false false true hg (by rw [hs]; omega) rfl rfl rfl) rfl) ⟨_, rfl, tab_put rfl hs rfl rfl, hS.same 7 rfl⟩
       ·
        have hg : ax.tmps.getD 49 undef = .bool true := (hdone 2 _ rfl rfl).2 _ rfl
        exact wpOp_no rfl (wanted_no 2 49 true hg (by rw [hs]; omega) rfl rfl rfl rfl) ⟨_, rfl, tab_put rfl hs rfl rfl, hS.same 8 rfl⟩
       ·
        have s49 : ax.tmps.getD 49 undef = .bool true := (hdone 0 _ rfl rfl).2 _ rfl
        have s55 : ax.tmps.getD 55 undef = undef := (hdone 1 _ rfl rfl).2 _ rfl
        exact wpOp_val (v := .bool true) (w' := wx) rfl rfl (by simp [execOp, Act.eval, s49, s55, go_sem]) ⟨_, rfl, tab_put rfl hs rfl rfl, hS.same 9 rfl⟩
       ·
        have s56 : ax.tmps.getD 56 undef = .bool true := (hdone 0 _ rfl rfl).2 _ rfl
        exact wpOp_val (v := .bool true) (w' := wx) rfl rfl (by simp [execOp, Act.eval, s56]) ⟨_, rfl, tab_put rfl hs rfl rfl, hS.same 10 rfl⟩
       ·
        have hg : ax.tmps.getD 57 undef = .bool true := (hdone 0 _ rfl rfl).2 _ rfl
        exact wpOp_valw (v := .bool false) (w' := wx) rfl (wanted_yes 10 57 true hg (by rw [hs]; omega) rfl rfl rfl rfl) (by simp [execOp, Act.eval, t14]) ⟨_, rfl, tab_put rfl hs rfl rfl, hS.same 11 rfl⟩
       ·
        have hg : ax.tmps.getD 57 undef = .bool true := (hdone 1 _ rfl rfl).2 _ rfl
        have s58 : ax.tmps.getD 58 undef = .bool false := (hdone 0 _ rfl rfl).2 _ rfl
        exact wpOp_valw (v := .bool true) (w' := wx) rfl (wanted_yes 10 57 true hg (by rw [hs]; omega) rfl rfl rfl rfl) (by simp [execOp, Act.eval, s58, go_sem]) ⟨_, rfl, tab_put rfl hs rfl rfl, hS.same 12 rfl⟩
       ·
        have hg : ax.tmps.getD 57 undef = .bool true := (hdone 1 _ rfl rfl).2 _ rfl
        have s59 : ax.tmps.getD 59 undef = .bool true := (hdone 0 _ rfl rfl).2 _ rfl
        exact wpOp_valw (v := .bool true) (w' := wx) rfl (wanted_yes 10 57 true hg (by rw [hs]; omega) rfl rfl rfl rfl) (by simp [execOp, Act.eval, s59]) ⟨_, rfl, tab_put rfl hs rfl rfl, hS.same 13 rfl⟩
       ·
        have hg : ax.tmps.getD 60 undef = .bool true := (hdone 0 _ rfl rfl).2 _ rfl
        exact wpOp_no rfl (wanted_no 13 60 true hg (by rw [hs]; omega) rfl rfl rfl rfl) ⟨_, rfl, tab_put rfl hs rfl rfl, hS.same 14 rfl⟩
       ·
        have hg : ax.tmps.getD 60 undef = .bool true := (hdone 0 _ rfl rfl).2 _ rfl
        exact wpOp_no rfl (wanted_no 13 60 true hg (by rw [hs]; omega) rfl rfl rfl rfl) ⟨_, rfl, tab_put rfl hs rfl rfl, hS.same 15 rfl⟩
       ·
        have hg : ax.tmps.getD 60 undef = .bool true := (hdone 2 _ rfl rfl).2 _ rfl
        exact wpOp_no rfl (wanted_no 13 60 true hg (by rw [hs]; omega) rfl rfl rfl rfl) ⟨_, rfl, tab_put rfl hs rfl rfl, hS.same 16 rfl⟩
       ·
        have hg : ax.tmps.getD 57 undef = .bool true := (hdone 2 _ rfl rfl).2 _ rfl
        have s60 : ax.tmps.getD 60 undef = .bool true := (hdone 0 _ rfl rfl).2 _ rfl
        have s63 : ax.tmps.getD 63 undef = undef := (hdone 1 _ rfl rfl).2 _ rfl
        exact wpOp_valw (v := .bool true) (w' := wx) rfl (wanted_yes 10 57 true hg (by rw [hs]; omega) rfl rfl rfl rfl) (by simp [execOp, Act.eval, s60, s63, go_sem]) ⟨_, rfl, tab_put rfl hs rfl rfl, hS.same 17 rfl⟩
       ·
        have s57 : ax.tmps.getD 57 undef = .bool true := (hdone 0 _ rfl rfl).2 _ rfl
        have s64 : ax.tmps.getD 64 undef = .bool true := (hdone 1 _ rfl rfl).2 _ rfl
        exact wpOp_val (v := .bool true) (w' := wx) rfl rfl (by simp [execOp, Act.eval, s57, s64, go_sem]) ⟨_, rfl, tab_put rfl hs rfl rfl, hS.same 18 rfl⟩
       ·
        have s65 : ax.tmps.getD 65 undef = .bool true := (hdone 0 _ rfl rfl).2 _ rfl
        exact wpOp_val (v := .bool true) (w' := wx) rfl rfl (by simp [execOp, Act.eval, s65]) ⟨_, rfl, tab_put rfl hs rfl rfl, hS.same 19 rfl⟩
       ·
        have hg : ax.tmps.getD 66 undef = .bool true := (hdone 0 _ rfl rfl).2 _ rfl
        refine wpOp_callw (args := #[]) rfl (wanted_yes 19 66 true hg (by rw [hs]; omega) rfl rfl rfl rfl) (exec_call rfl rfl rfl (args0 ) Try.func46 (by decide +kernel) rfl) ?_
        · refine (wakes_n wx).mono ?_
          rintro e w' ⟨rfl, b9⟩
          exact ⟨_, rfl, _, rfl, tab_put rfl hs rfl rfl, hS.quiet 20 rfl b9⟩
       ·
        have s66 : ax.tmps.getD 66 undef = .bool true := (hdone 0 _ rfl rfl).2 _ rfl
        have s67 : ax.tmps.getD 67 undef = .bool true := (hdone 1 _ rfl rfl).2 _ rfl
        exact wpOp_val (v := .bool true) (w' := wx) rfl rfl (by simp [execOp, Act.eval, s66, s67, go_sem]) ⟨_, rfl, tab_put rfl hs rfl rfl, hS.same 21 rfl⟩
       ·
        have s68 : ax.tmps.getD 68 undef = .bool true := (hdone 0 _ rfl rfl).2 _ rfl
        exact wpOp_val (v := .bool true) (w' := wx) rfl rfl (by simp [execOp, Act.eval, s68]) ⟨_, rfl, tab_put rfl hs rfl rfl, hS.same 22 rfl⟩
     intro a6 w6 fl d6 z6 rest6 R6 hfl hS
     obtain ⟨B6, n6, hBs, hAs, hPs⟩ := hS.finish hfl rfl
     replace d6 := d6.trans d5
     replace z6 := z6.trans z5
     obtain ⟨⟨-, b_g1_6⟩, ⟨-, b_g2_6⟩, ⟨-, b_g3_6⟩, -⟩ := hBs
     have s10_6 : a6.tmps.getD 10 undef = .bool true := R6 22 _ rfl
     clear R6 rest6 hS hfl hPs hAs
     clear s3_5 s6_5 s10_5 s11_5 s13_5 s14_5 s41_5 b_g1_5 b_g2_5 b_g3_5 d5 z5
     refine wp_ret ?_
     try simp only [Exit.inBlock, Exit.then]
     refine bodyPost_ret (res_t (fn := Try.f9) rfl s10_6) d6 ?_
     exact ⟨rfl, B6⟩
    have Ffk5 := Lib.hid fk5; clear fk5
    refine wp_regx (SX W w4.heap.size [⟨g1, 60, (cR a b c d), none, #[]⟩, ⟨g2, 60, (cR p q r t), none, #[]⟩, ⟨g3, 60, (cR ((Rg.giv cc ⟨⟨a, b⟩, ⟨c, d⟩⟩ ⟨⟨p, q⟩, ⟨r, t⟩⟩).u.lo) ((Rg.giv cc ⟨⟨a, b⟩, ⟨c, d⟩⟩ ⟨⟨p, q⟩, ⟨r, t⟩⟩).u.hi) ((Rg.giv cc ⟨⟨a, b⟩, ⟨c, d⟩⟩ ⟨⟨p, q⟩, ⟨r, t⟩⟩).s.lo) ((Rg.giv cc ⟨⟨a, b⟩, ⟨c, d⟩⟩ ⟨⟨p, q⟩, ⟨r, t⟩⟩).s.hi)), none, #[]⟩] []) (TabX [fun vx => vx = .int .i64 (holdsE cc 64), fun vx => vx = .bool true]) (by kernel_rfl) (back_of (by kernel_rfl)) (dst_of (by kernel_rfl)) (in_ofz (by kernel_rfl) z4) (fun fl w1 hfl hw => SX.start' hw B4 hfl rfl ⟨b_g1_4, b_g2_4, b_g3_4, trivial⟩) ?h11 ?_
    case h11 =>
      intro ix ox ax wx fl ho hS hfi clo hsz hrest hdone hund
      have t12 := (hrest 12 (not_of (by kernel_rfl))).trans s12_4
      have hs : ax.tmps.size = 69 := hsz.trans z4
      have hi : ix < 2 := (Array.getElem?_eq_some_iff.1 ho).1
      clear hrest hsz hund
      obtain rfl | rfl : ix = 0 ∨ ix = 1 := by omega
      all_goals obtain rfl := Option.some.inj (show some _ = some ox from ho)
      ·
       exact wpOp_val (v := .int .i64 (holdsE cc 64)) (w' := wx) rfl rfl (by simp [execOp, Act.eval, t12]) ⟨_, rfl, tab_put rfl hs rfl rfl, hS.same 0 rfl⟩
      ·
       have s40 : ax.tmps.getD 40 undef = .int .i64 (holdsE cc 64) := (hdone 0 _ rfl rfl).2 _ rfl
       exact wpOp_val (v := .bool ((holdsE cc 64) != 0)) (w' := wx) rfl rfl (by (simp [execOp, Act.eval, s40, go_sem]; try (simp only [IntKind.wrap_i64, wrap64]))) ⟨_, rfl, tab_put rfl hs rfl (congrArg Value.bool Ffk5.out), hS.same 1 rfl⟩
    intro a5 w5 fl d5 z5 rest5 R5 hfl hS
    obtain ⟨B5, n5, hBs, hAs, hPs⟩ := hS.finish hfl rfl
    replace d5 := d5.trans d4
    replace z5 := z5.trans z4
    obtain ⟨⟨-, b_g1_5⟩, ⟨-, b_g2_5⟩, ⟨l_g3_5, b_g3_5⟩, -⟩ := hBs
    replace l_g3_5 : g3 < w4.heap.size := l_g3_5
    have s3_5 := (rest5 3 (not_of (by kernel_rfl))).trans s3_4
    have s6_5 := (rest5 6 (not_of (by kernel_rfl))).trans s6_4
    have s10_5 := (rest5 10 (not_of (by kernel_rfl))).trans s10_4
    have s11_5 := (rest5 11 (not_of (by kernel_rfl))).trans s11_4
    have s13_5 := (rest5 13 (not_of (by kernel_rfl))).trans u_g3
    have s14_5 := (rest5 14 (not_of (by kernel_rfl))).trans s14_4
    have s41_5 : a5.tmps.getD 41 undef = .bool true := R5 1 _ rfl
    clear R5 rest5 hS hfl hPs hAs
    clear u_g3 s3_4 s6_4 s10_4 s11_4 s12_4 s14_4 b_g1_4 b_g2_4 b_g3_4 d4 z4
    refine wp_cond_true (show a5.tmps.getD 41 undef = .bool true from s41_5) ?_
    refine wp_seq ?_
    refine wp_regx (SX W w5.heap.size [⟨g1, 60, (cR a b c d), none, #[]⟩, ⟨g2, 60, (cR p q r t), none, #[]⟩, ⟨g3, 60, (cR ((Rg.giv cc ⟨⟨a, b⟩, ⟨c, d⟩⟩ ⟨⟨p, q⟩, ⟨r, t⟩⟩).u.lo) ((Rg.giv cc ⟨⟨a, b⟩, ⟨c, d⟩⟩ ⟨⟨p, q⟩, ⟨r, t⟩⟩).u.hi) ((Rg.giv cc ⟨⟨a, b⟩, ⟨c, d⟩⟩ ⟨⟨p, q⟩, ⟨r, t⟩⟩).s.lo) ((Rg.giv cc ⟨⟨a, b⟩, ⟨c, d⟩⟩ ⟨⟨p, q⟩, ⟨r, t⟩⟩).s.hi)), none, #[]⟩] []) (TabX [fun vx => vx = .bool false, fun vx => vx = .bool true, fun vx => vx = .bool true, fun vx => vx = .bool true, fun vx => vx = .bool true, fun vx => vx = .bool true]) (by kernel_rfl) (back_of (by kernel_rfl)) (dst_of (by kernel_rfl)) (in_ofz (by kernel_rfl) z5) (fun fl w1 hfl hw => SX.start' hw B5 hfl rfl ⟨b_g1_5, b_g2_5, b_g3_5, trivial⟩) ?h12 ?_
    case h12 =>
      intro ix ox ax wx fl ho hS hfi clo hsz hrest hdone hund
      have t14 := (hrest 14 (not_of (by kernel_rfl))).trans s14_5
      have hs : ax.tmps.size = 69 := hsz.trans z5
      have hi : ix < 6 := (Array.getElem?_eq_some_iff.1 ho).1
      clear hrest hsz hund
      obtain rfl | rfl | rfl | rfl | rfl | rfl : ix = 0 ∨ ix = 1 ∨ ix = 2 ∨ ix = 3 ∨ ix = 4 ∨ ix = 5 := by omega
      all_goals obtain rfl := Option.some.inj (show some _ = some ox from ho)
      ·
       exact wpOp_val (v := .bool false) (w' := wx) rfl rfl (by simp [execOp, Act.eval, t14]) ⟨_, rfl, tab_put rfl hs rfl rfl, hS.same 0 rfl⟩
      ·
       have s42 : ax.tmps.getD 42 undef = .bool false := (hdone 0 _ rfl rfl).2 _ rfl
       exact wpOp_val (v := .bool true) (w' := wx) rfl rfl (by simp [execOp, Act.eval, s42, go_sem]) ⟨_, rfl, tab_put rfl hs rfl rfl, hS.same 1 rfl⟩
      ·
       have s43 : ax.tmps.getD 43 undef = .bool true := (hdone 0 _ rfl rfl).2 _ rfl
       exact wpOp_val (v := .bool true) (w' := wx) rfl rfl (by simp [execOp, Act.eval, s43]) ⟨_, rfl, tab_put rfl hs rfl rfl, hS.same 2 rfl⟩
      ·
       have hg : ax.tmps.getD 44 undef = .bool true := (hdone 0 _ rfl rfl).2 _ rfl
       refine wpOp_callw (args := #[]) rfl (wanted_yes 2 44 true hg (by rw [hs]; omega) rfl rfl rfl rfl) (exec_call rfl rfl rfl (args0 ) Try.func46 (by decide +kernel) rfl) ?_
       · refine (wakes_n wx).mono ?_
         rintro e w' ⟨rfl, b9⟩
         exact ⟨_, rfl, _, rfl, tab_put rfl hs rfl rfl, hS.quiet 3 rfl b9⟩
      ·
       have s44 : ax.tmps.getD 44 undef = .bool true := (hdone 0 _ rfl rfl).2 _ rfl
       have s45 : ax.tmps.getD 45 undef = .bool true := (hdone 1 _ rfl rfl).2 _ rfl
       exact wpOp_val (v := .bool true) (w' := wx) rfl rfl (by simp [execOp, Act.eval, s44, s45, go_sem]) ⟨_, rfl, tab_put rfl hs rfl rfl, hS.same 4 rfl⟩
      ·
       have s46 : ax.tmps.getD 46 undef = .bool true := (hdone 0 _ rfl rfl).2 _ rfl
       exact wpOp_val (v := .bool true) (w' := wx) rfl rfl (by simp [execOp, Act.eval, s46]) ⟨_, rfl, tab_put rfl hs rfl rfl, hS.same 5 rfl⟩
    intro a6 w6 fl d6 z6 rest6 R6 hfl hS
    obtain ⟨B6, n6, hBs, hAs, hPs⟩ := hS.finish hfl rfl
    replace d6 := d6.trans d5
    replace z6 := z6.trans z5
    obtain ⟨⟨-, b_g1_6⟩, ⟨-, b_g2_6⟩, ⟨-, b_g3_6⟩, -⟩ := hBs
    have s3_6 := (rest6 3 (not_of (by kernel_rfl))).trans s3_5
    have s6_6 := (rest6 6 (not_of (by kernel_rfl))).trans s6_5
    have s10_6 : a6.tmps.getD 10 undef = .bool true := R6 5 _ rfl
    have s11_6 := (rest6 11 (not_of (by kernel_rfl))).trans s11_5
    have s13_6 := (rest6 13 (not_of (by kernel_rfl))).trans s13_5
    have s14_6 := (rest6 14 (not_of (by kernel_rfl))).trans s14_5
    clear R6 rest6 hS hfl hPs hAs
    clear s3_5 s6_5 s10_5 s11_5 s13_5 s14_5 s41_5 b_g1_5 b_g2_5 b_g3_5 d5 z5
    refine wp_ret ?_
    try simp only [Exit.inBlock, Exit.then]
    refine bodyPost_ret (res_t (fn := Try.f9) rfl s10_6) d6 ?_
    exact ⟨rfl, B6⟩
   have Ffk4 := Lib.hid fk4; clear fk4
   refine wp_regx (SX W w3.heap.size [⟨g1, 60, (cR a b c d), none, #[]⟩, ⟨g2, 60, (cR p q r t), none, #[]⟩] [⟨7, 13, 60, (cR 0 0 0 0), some 8, (cR ((Rg.giv cc ⟨⟨a, b⟩, ⟨c, d⟩⟩ ⟨⟨p, q⟩, ⟨r, t⟩⟩).u.lo) ((Rg.giv cc ⟨⟨a, b⟩, ⟨c, d⟩⟩ ⟨⟨p, q⟩, ⟨r, t⟩⟩).u.hi) ((Rg.giv cc ⟨⟨a, b⟩, ⟨c, d⟩⟩ ⟨⟨p, q⟩, ⟨r, t⟩⟩).s.lo) ((Rg.giv cc ⟨⟨a, b⟩, ⟨c, d⟩⟩ ⟨⟨p, q⟩, ⟨r, t⟩⟩).s.hi))⟩]) (TabX [fun vx => vx = .int .i8 cc, fun vx => vx = .agg #[.int .u64 a, .int .u64 b, .int .i64 c, .int .i64 d], fun vx => vx = .agg #[.int .u64 p, .int .u64 q, .int .i64 r, .int .i64 t], fun vx => vx = .tuple #[.agg #[.int .u64 ((Rg.giv cc ⟨⟨a, b⟩, ⟨c, d⟩⟩ ⟨⟨p, q⟩, ⟨r, t⟩⟩).u.lo), .int .u64 ((Rg.giv cc ⟨⟨a, b⟩, ⟨c, d⟩⟩ ⟨⟨p, q⟩, ⟨r, t⟩⟩).u.hi), .int .i64 ((Rg.giv cc ⟨⟨a, b⟩, ⟨c, d⟩⟩ ⟨⟨p, q⟩, ⟨r, t⟩⟩).s.lo), .int .i64 ((Rg.giv cc ⟨⟨a, b⟩, ⟨c, d⟩⟩ ⟨⟨p, q⟩, ⟨r, t⟩⟩).s.hi)], .bool (Rg.givB cc ⟨⟨a, b⟩, ⟨c, d⟩⟩ ⟨⟨p, q⟩, ⟨r, t⟩⟩)], fun vx => vx = .tuple #[.agg #[.int .u64 ((Rg.giv cc ⟨⟨a, b⟩, ⟨c, d⟩⟩ ⟨⟨p, q⟩, ⟨r, t⟩⟩).u.lo), .int .u64 ((Rg.giv cc ⟨⟨a, b⟩, ⟨c, d⟩⟩ ⟨⟨p, q⟩, ⟨r, t⟩⟩).u.hi), .int .i64 ((Rg.giv cc ⟨⟨a, b⟩, ⟨c, d⟩⟩ ⟨⟨p, q⟩, ⟨r, t⟩⟩).s.lo), .int .i64 ((Rg.giv cc ⟨⟨a, b⟩, ⟨c, d⟩⟩ ⟨⟨p, q⟩, ⟨r, t⟩⟩).s.hi)], .bool (Rg.givB cc ⟨⟨a, b⟩, ⟨c, d⟩⟩ ⟨⟨p, q⟩, ⟨r, t⟩⟩)], fun vx => vx = .agg #[.int .u64 ((Rg.giv cc ⟨⟨a, b⟩, ⟨c, d⟩⟩ ⟨⟨p, q⟩, ⟨r, t⟩⟩).u.lo), .int .u64 ((Rg.giv cc ⟨⟨a, b⟩, ⟨c, d⟩⟩ ⟨⟨p, q⟩, ⟨r, t⟩⟩).u.hi), .int .i64 ((Rg.giv cc ⟨⟨a, b⟩, ⟨c, d⟩⟩ ⟨⟨p, q⟩, ⟨r, t⟩⟩).s.lo), .int .i64 ((Rg.giv cc ⟨⟨a, b⟩, ⟨c, d⟩⟩ ⟨⟨p, q⟩, ⟨r, t⟩⟩).s.hi)], fun vx => vx = .bool true, fun _ => True, fun _ => True, fun vx => vx = .bool true]) (by kernel_rfl) (back_of (by kernel_rfl)) (dst_of (by kernel_rfl)) (in_ofz (by kernel_rfl) z3) (fun fl w1 hfl hw => SX.start' hw B3 hfl rfl ⟨b_g1_3, b_g2_3, trivial⟩) ?h13 ?_
   case h13 =>
     intro ix ox ax wx fl ho hS hfi clo hsz hrest hdone hund
     have t0 := (hrest 0 (not_of (by kernel_rfl))).trans s0_3
     have t6 := (hrest 6 (not_of (by kernel_rfl))).trans s6_3
     have t7 := (hrest 7 (not_of (by kernel_rfl))).trans s7_3
     have hs : ax.tmps.size = 69 := hsz.trans z3
     have hi : ix < 10 := (Array.getElem?_eq_some_iff.1 ho).1
     clear hrest hsz hund
     obtain rfl | rfl | rfl | rfl | rfl | rfl | rfl | rfl | rfl | rfl : ix = 0 ∨ ix = 1 ∨ ix = 2 ∨ ix = 3 ∨ ix = 4 ∨ ix = 5 ∨ ix = 6 ∨ ix = 7 ∨ ix = 8 ∨ ix = 9 := by omega
     all_goals obtain rfl := Option.some.inj (show some _ = some ox from ho)
     ·
      exact wpOp_val (v := .int .i8 cc) (w' := wx) rfl rfl (by simp [execOp, Act.eval, t0]) ⟨_, rfl, tab_put rfl hs rfl rfl, hS.same 0 rfl⟩
     ·
      have hr := hS.rowNi 0 rfl
      exact wpOp_val (v := .agg #[.int .u64 a, .int .u64 b, .int .i64 c, .int .i64 d]) (w' := wx) rfl rfl (exec_loadR 60 _ rfl g1 0 (show ax.eval (.tmp 6) = .pointer (some ⟨g1, 0, none⟩) from t6) hr [.int .u64 a, .int .u64 b, .int .i64 c, .int .i64 d] rfl _ Try.underlying60 rfl (by kernel_rfl)) ⟨_, rfl, tab_put rfl hs rfl rfl, hS.same 1 rfl⟩
     ·
      have hr := hS.rowNi 1 rfl
      exact wpOp_val (v := .agg #[.int .u64 p, .int .u64 q, .int .i64 r, .int .i64 t]) (w' := wx) rfl rfl (exec_loadR 60 _ rfl g2 0 (show ax.eval (.tmp 7) = .pointer (some ⟨g2, 0, none⟩) from t7) hr [.int .u64 p, .int .u64 q, .int .i64 r, .int .i64 t] rfl _ Try.underlying60 rfl (by kernel_rfl)) ⟨_, rfl, tab_put rfl hs rfl rfl, hS.same 2 rfl⟩
     ·
      have s34 : ax.tmps.getD 34 undef = .int .i8 cc := (hdone 0 _ rfl rfl).2 _ rfl
      have s35 : ax.tmps.getD 35 undef = .agg #[.int .u64 a, .int .u64 b, .int .i64 c, .int .i64 d] := (hdone 1 _ rfl rfl).2 _ rfl
      have s36 : ax.tmps.getD 36 undef = .agg #[.int .u64 p, .int .u64 q, .int .i64 r, .int .i64 t] := (hdone 2 _ rfl rfl).2 _ rfl
      refine wpOp_call (args := #[.int .i8 cc, .agg #[.int .u64 a, .int .u64 b, .int .i64 c, .int .i64 d], .agg #[.int .u64 p, .int .u64 q, .int .i64 r, .int .i64 t]]) rfl rfl (exec_call rfl rfl rfl (args3 (show ax.eval (.tmp 34) = .int .i8 cc from s34) (show ax.eval (.tmp 35) = .agg #[.int .u64 a, .int .u64 b, .int .i64 c, .int .i64 d] from s35) (show ax.eval (.tmp 36) = .agg #[.int .u64 p, .int .u64 q, .int .i64 r, .int .i64 t] from s36)) Try.func24 (by decide +kernel) rfl) ?_
      · refine (given_n cc a b c d p q r t wx HA.out HB.out).mono ?_
        rintro e w' ⟨rfl, b9⟩
        exact ⟨_, rfl, _, rfl, tab_put rfl hs rfl rfl, hS.quiet 3 rfl b9⟩
     ·
      have s37 : ax.tmps.getD 37 undef = .tuple #[.agg #[.int .u64 ((Rg.giv cc ⟨⟨a, b⟩, ⟨c, d⟩⟩ ⟨⟨p, q⟩, ⟨r, t⟩⟩).u.lo), .int .u64 ((Rg.giv cc ⟨⟨a, b⟩, ⟨c, d⟩⟩ ⟨⟨p, q⟩, ⟨r, t⟩⟩).u.hi), .int .i64 ((Rg.giv cc ⟨⟨a, b⟩, ⟨c, d⟩⟩ ⟨⟨p, q⟩, ⟨r, t⟩⟩).s.lo), .int .i64 ((Rg.giv cc ⟨⟨a, b⟩, ⟨c, d⟩⟩ ⟨⟨p, q⟩, ⟨r, t⟩⟩).s.hi)], .bool (Rg.givB cc ⟨⟨a, b⟩, ⟨c, d⟩⟩ ⟨⟨p, q⟩, ⟨r, t⟩⟩)] := (hdone 0 _ rfl rfl).2 _ rfl
      exact wpOp_val (v := .tuple #[.agg #[.int .u64 ((Rg.giv cc ⟨⟨a, b⟩, ⟨c, d⟩⟩ ⟨⟨p, q⟩, ⟨r, t⟩⟩).u.lo), .int .u64 ((Rg.giv cc ⟨⟨a, b⟩, ⟨c, d⟩⟩ ⟨⟨p, q⟩, ⟨r, t⟩⟩).u.hi), .int .i64 ((Rg.giv cc ⟨⟨a, b⟩, ⟨c, d⟩⟩ ⟨⟨p, q⟩, ⟨r, t⟩⟩).s.lo), .int .i64 ((Rg.giv cc ⟨⟨a, b⟩, ⟨c, d⟩⟩ ⟨⟨p, q⟩, ⟨r, t⟩⟩).s.hi)], .bool (Rg.givB cc ⟨⟨a, b⟩, ⟨c, d⟩⟩ ⟨⟨p, q⟩, ⟨r, t⟩⟩)]) (w' := wx) rfl rfl (by (revert s37; generalize (.tuple #[.agg #[.int .u64 ((Rg.giv cc ⟨⟨a, b⟩, ⟨c, d⟩⟩ ⟨⟨p, q⟩, ⟨r, t⟩⟩).u.lo), .int .u64 ((Rg.giv cc ⟨⟨a, b⟩, ⟨c, d⟩⟩ ⟨⟨p, q⟩, ⟨r, t⟩⟩).u.hi), .int .i64 ((Rg.giv cc ⟨⟨a, b⟩, ⟨c, d⟩⟩ ⟨⟨p, q⟩, ⟨r, t⟩⟩).s.lo), .int .i64 ((Rg.giv cc ⟨⟨a, b⟩, ⟨c, d⟩⟩ ⟨⟨p, q⟩, ⟨r, t⟩⟩).s.hi)], .bool (Rg.givB cc ⟨⟨a, b⟩, ⟨c, d⟩⟩ ⟨⟨p, q⟩, ⟨r, t⟩⟩)] : Value) = y0; intro s37); simp [execOp, Act.eval, s37]) ⟨_, rfl, tab_put rfl hs rfl rfl, hS.same 4 rfl⟩
     ·
      have s33 : ax.tmps.getD 33 undef = .tuple #[.agg #[.int .u64 ((Rg.giv cc ⟨⟨a, b⟩, ⟨c, d⟩⟩ ⟨⟨p, q⟩, ⟨r, t⟩⟩).u.lo), .int .u64 ((Rg.giv cc ⟨⟨a, b⟩, ⟨c, d⟩⟩ ⟨⟨p, q⟩, ⟨r, t⟩⟩).u.hi), .int .i64 ((Rg.giv cc ⟨⟨a, b⟩, ⟨c, d⟩⟩ ⟨⟨p, q⟩, ⟨r, t⟩⟩).s.lo), .int .i64 ((Rg.giv cc ⟨⟨a, b⟩, ⟨c, d⟩⟩ ⟨⟨p, q⟩, ⟨r, t⟩⟩).s.hi)], .bool (Rg.givB cc ⟨⟨a, b⟩, ⟨c, d⟩⟩ ⟨⟨p, q⟩, ⟨r, t⟩⟩)] := (hdone 0 _ rfl rfl).2 _ rfl
      exact wpOp_val (v := .agg #[.int .u64 ((Rg.giv cc ⟨⟨a, b⟩, ⟨c, d⟩⟩ ⟨⟨p, q⟩, ⟨r, t⟩⟩).u.lo), .int .u64 ((Rg.giv cc ⟨⟨a, b⟩, ⟨c, d⟩⟩ ⟨⟨p, q⟩, ⟨r, t⟩⟩).u.hi), .int .i64 ((Rg.giv cc ⟨⟨a, b⟩, ⟨c, d⟩⟩ ⟨⟨p, q⟩, ⟨r, t⟩⟩).s.lo), .int .i64 ((Rg.giv cc ⟨⟨a, b⟩, ⟨c, d⟩⟩ ⟨⟨p, q⟩, ⟨r, t⟩⟩).s.hi)]) (w' := wx) rfl rfl (by simp [execOp, Act.eval, s33, go_sem]) ⟨_, rfl, tab_put rfl hs rfl rfl, hS.same 5 rfl⟩
     ·
      have s33 : ax.tmps.getD 33 undef = .tuple #[.agg #[.int .u64 ((Rg.giv cc ⟨⟨a, b⟩, ⟨c, d⟩⟩ ⟨⟨p, q⟩, ⟨r, t⟩⟩).u.lo), .int .u64 ((Rg.giv cc ⟨⟨a, b⟩, ⟨c, d⟩⟩ ⟨⟨p, q⟩, ⟨r, t⟩⟩).u.hi), .int .i64 ((Rg.giv cc ⟨⟨a, b⟩, ⟨c, d⟩⟩ ⟨⟨p, q⟩, ⟨r, t⟩⟩).s.lo), .int .i64 ((Rg.giv cc ⟨⟨a, b⟩, ⟨c, d⟩⟩ ⟨⟨p, q⟩, ⟨r, t⟩⟩).s.hi)], .bool (Rg.givB cc ⟨⟨a, b⟩, ⟨c, d⟩⟩ ⟨⟨p, q⟩, ⟨r, t⟩⟩)] := (hdone 0 _ rfl rfl).2 _ rfl
      exact wpOp_val (v := .bool (Rg.givB cc ⟨⟨a, b⟩, ⟨c, d⟩⟩ ⟨⟨p, q⟩, ⟨r, t⟩⟩)) (w' := wx) rfl rfl (by simp [execOp, Act.eval, s33, go_sem]) ⟨_, rfl, tab_put rfl hs rfl (congrArg Value.bool Ffk4.out), hS.same 6 rfl⟩
     ·
      refine wpOp_val (v := .pointer (some ⟨wx.heap.size, 0, none⟩)) (w' := wx.alloc (.cells #[.int .u64 0, .int .u64 0, .int .i64 0, .int .i64 0] 60)) rfl rfl ?_ ⟨_, rfl, trivial, hS.alloc 7 13 60 #[.int .u64 0, .int .u64 0, .int .i64 0, .int .i64 0] [] [] (some 8) #[.int .u64 ((Rg.giv cc ⟨⟨a, b⟩, ⟨c, d⟩⟩ ⟨⟨p, q⟩, ⟨r, t⟩⟩).u.lo), .int .u64 ((Rg.giv cc ⟨⟨a, b⟩, ⟨c, d⟩⟩ ⟨⟨p, q⟩, ⟨r, t⟩⟩).u.hi), .int .i64 ((Rg.giv cc ⟨⟨a, b⟩, ⟨c, d⟩⟩ ⟨⟨p, q⟩, ⟨r, t⟩⟩).s.lo), .int .i64 ((Rg.giv cc ⟨⟨a, b⟩, ⟨c, d⟩⟩ ⟨⟨p, q⟩, ⟨r, t⟩⟩).s.hi)] rfl rfl rfl (by rw [hs]; omega) (not_yet clo hfi (by kernel_rfl))⟩
      · simp [execOp, Act.eval, go_sem]
     ·
      have hd13 := (hdone 0 _ rfl rfl).1
      obtain ⟨g3, s13, n13, r13⟩ := SX.rowA hS [] [] 7 13 60 _ _ 8 rfl hd13 hfi
      have s13 : ax.tmps.getD 13 undef = .pointer (some ⟨g3, 0, none⟩) := s13
      have s38 : ax.tmps.getD 38 undef = .agg #[.int .u64 ((Rg.giv cc ⟨⟨a, b⟩, ⟨c, d⟩⟩ ⟨⟨p, q⟩, ⟨r, t⟩⟩).u.lo), .int .u64 ((Rg.giv cc ⟨⟨a, b⟩, ⟨c, d⟩⟩ ⟨⟨p, q⟩, ⟨r, t⟩⟩).u.hi), .int .i64 ((Rg.giv cc ⟨⟨a, b⟩, ⟨c, d⟩⟩ ⟨⟨p, q⟩, ⟨r, t⟩⟩).s.lo), .int .i64 ((Rg.giv cc ⟨⟨a, b⟩, ⟨c, d⟩⟩ ⟨⟨p, q⟩, ⟨r, t⟩⟩).s.hi)] := (hdone 1 _ rfl rfl).2 _ rfl
      have hr : wx.heap[g3]? = some (.cells #[.int .u64 0, .int .u64 0, .int .i64 0, .int .i64 0] 60 (0, 0)) := r13
      exact wpOp_skp (w' := wx.setRow g3 #[.int .u64 ((Rg.giv cc ⟨⟨a, b⟩, ⟨c, d⟩⟩ ⟨⟨p, q⟩, ⟨r, t⟩⟩).u.lo), .int .u64 ((Rg.giv cc ⟨⟨a, b⟩, ⟨c, d⟩⟩ ⟨⟨p, q⟩, ⟨r, t⟩⟩).u.hi), .int .i64 ((Rg.giv cc ⟨⟨a, b⟩, ⟨c, d⟩⟩ ⟨⟨p, q⟩, ⟨r, t⟩⟩).s.lo), .int .i64 ((Rg.giv cc ⟨⟨a, b⟩, ⟨c, d⟩⟩ ⟨⟨p, q⟩, ⟨r, t⟩⟩).s.hi)]) rfl rfl (exec_storeR 60 _ _ rfl g3 #[.int .u64 ((Rg.giv cc ⟨⟨a, b⟩, ⟨c, d⟩⟩ ⟨⟨p, q⟩, ⟨r, t⟩⟩).u.lo), .int .u64 ((Rg.giv cc ⟨⟨a, b⟩, ⟨c, d⟩⟩ ⟨⟨p, q⟩, ⟨r, t⟩⟩).u.hi), .int .i64 ((Rg.giv cc ⟨⟨a, b⟩, ⟨c, d⟩⟩ ⟨⟨p, q⟩, ⟨r, t⟩⟩).s.lo), .int .i64 ((Rg.giv cc ⟨⟨a, b⟩, ⟨c, d⟩⟩ ⟨⟨p, q⟩, ⟨r, t⟩⟩).s.hi)] (show ax.eval (.tmp 13) = .pointer (some ⟨g3, 0, none⟩) from s13) (show ax.eval (.tmp 38) = .agg #[.int .u64 ((Rg.giv cc ⟨⟨a, b⟩, ⟨c, d⟩⟩ ⟨⟨p, q⟩, ⟨r, t⟩⟩).u.lo), .int .u64 ((Rg.giv cc ⟨⟨a, b⟩, ⟨c, d⟩⟩ ⟨⟨p, q⟩, ⟨r, t⟩⟩).u.hi), .int .i64 ((Rg.giv cc ⟨⟨a, b⟩, ⟨c, d⟩⟩ ⟨⟨p, q⟩, ⟨r, t⟩⟩).s.lo), .int .i64 ((Rg.giv cc ⟨⟨a, b⟩, ⟨c, d⟩⟩ ⟨⟨p, q⟩, ⟨r, t⟩⟩).s.hi)] from s38) hr (by kernel_rfl) rfl (by simp [Value.oneCell'])) ⟨undef, rfl, trivial, hS.storeA 8 7 13 60 #[.int .u64 0, .int .u64 0, .int .i64 0, .int .i64 0] #[.int .u64 ((Rg.giv cc ⟨⟨a, b⟩, ⟨c, d⟩⟩ ⟨⟨p, q⟩, ⟨r, t⟩⟩).u.lo), .int .u64 ((Rg.giv cc ⟨⟨a, b⟩, ⟨c, d⟩⟩ ⟨⟨p, q⟩, ⟨r, t⟩⟩).u.hi), .int .i64 ((Rg.giv cc ⟨⟨a, b⟩, ⟨c, d⟩⟩ ⟨⟨p, q⟩, ⟨r, t⟩⟩).s.lo), .int .i64 ((Rg.giv cc ⟨⟨a, b⟩, ⟨c, d⟩⟩ ⟨⟨p, q⟩, ⟨r, t⟩⟩).s.hi)] [] [] rfl B3.size hd13 g3 s13 (by decide) rfl (stored_setRow wx g3 _ _ _ hr)⟩
     ·
      have s39 : ax.tmps.getD 39 undef = .bool true := (hdone 0 _ rfl rfl).2 _ rfl
      exact wpOp_val (v := .bool true) (w' := wx) rfl rfl (by simp [execOp, Act.eval, s39]) ⟨_, rfl, tab_put rfl hs rfl rfl, hS.same 9 rfl⟩
   intro a4 w4 fl d4 z4 rest4 R4 hfl hS
   obtain ⟨B4, n4, hBs, hAs, hPs⟩ := hS.finish hfl rfl
   replace d4 := d4.trans d3
   replace z4 := z4.trans z3
   obtain ⟨⟨-, b_g1_4⟩, ⟨-, b_g2_4⟩, -⟩ := hBs
   obtain ⟨⟨g3, u_g3, q_g3, b_g3_4⟩, -⟩ := hAs
   replace u_g3 : a4.tmps.getD 13 undef = .pointer (some ⟨g3, 0, none⟩) := u_g3
   have m_g3 : w3.heap.size ≤ g3 := q_g3
   replace q_g3 : W.heap.size ≤ g3 := Nat.le_trans B3.size q_g3
   have s3_4 := (rest4 3 (not_of (by kernel_rfl))).trans s3_3
   have s6_4 := (rest4 6 (not_of (by kernel_rfl))).trans s6_3
   have s10_4 := (rest4 10 (not_of (by kernel_rfl))).trans s10_3
   have s11_4 := (rest4 11 (not_of (by kernel_rfl))).trans s11_3
   have s12_4 := (rest4 12 (not_of (by kernel_rfl))).trans s12_3
   have s14_4 : a4.tmps.getD 14 undef = .bool true := R4 9 _ rfl
   clear R4 rest4 hS hfl hPs
   clear s0_3 s3_3 s6_3 s7_3 s10_3 s11_3 s12_3 b_g1_3 b_g2_3 d3 z3
   refine wp_seq ?_
   refine wp_seq ?_
   refine wp_regx (SX W w4.heap.size [⟨g1, 60, (cR a b c d), none, #[]⟩, ⟨g2, 60, (cR p q r t), none, #[]⟩, ⟨g3, 60, (cR ((Rg.giv cc ⟨⟨a, b⟩, ⟨c, d⟩⟩ ⟨⟨p, q⟩, ⟨r, t⟩⟩).u.lo) ((Rg.giv cc ⟨⟨a, b⟩, ⟨c, d⟩⟩ ⟨⟨p, q⟩, ⟨r, t⟩⟩).u.hi) ((Rg.giv cc ⟨⟨a, b⟩, ⟨c, d⟩⟩ ⟨⟨p, q⟩, ⟨r, t⟩⟩).s.lo) ((Rg.giv cc ⟨⟨a, b⟩, ⟨c, d⟩⟩ ⟨⟨p, q⟩, ⟨r, t⟩⟩).s.hi)), none, #[]⟩] []) (TabX [fun vx => vx = .int .i64 (holdsE cc 64), fun vx => vx = .bool false]) (by kernel_rfl) (back_of (by kernel_rfl)) (dst_of (by kernel_rfl)) (in_ofz (by kernel_rfl) z4) (fun fl w1 hfl hw => SX.start' hw B4 hfl rfl ⟨b_g1_4, b_g2_4, b_g3_4, trivial⟩) ?h14 ?_
   case h14 =>
     intro ix ox ax wx fl ho hS hfi clo hsz hrest hdone hund
     have t12 := (hrest 12 (not_of (by kernel_rfl))).trans s12_4
     have hs : ax.tmps.size = 69 := hsz.trans z4
     have hi : ix < 2 := (Array.getElem?_eq_some_iff.1 ho).1
     clear hrest hsz hund
     obtain rfl | rfl : ix = 0 ∨ ix = 1 := by omega
     all_goals obtain rfl := Option.some.inj (show some _ = some ox from ho)
     ·
      exact wpOp_val (v := .int .i64 (holdsE cc 64)) (w' := wx) rfl rfl (by simp [execOp, Act.eval, t12]) ⟨_, rfl, tab_put rfl hs rfl rfl, hS.same 0 rfl⟩
     ·
      have s40 : ax.tmps.getD 40 undef = .int .i64 (holdsE cc 64) := (hdone 0 _ rfl rfl).2 _ rfl
      exact wpOp_val (v := .bool ((holdsE cc 64) != 0)) (w' := wx) rfl rfl (by (simp [execOp, Act.eval, s40, go_sem]; try (simp only [IntKind.wrap_i64, wrap64]))) ⟨_, rfl, tab_put rfl hs rfl (congrArg Value.bool (K3.out Ffk4.out)), hS.same 1 rfl⟩
   intro a5 w5 fl d5 z5 rest5 R5 hfl hS
   obtain ⟨B5, n5, hBs, hAs, hPs⟩ := hS.finish hfl rfl
   replace d5 := d5.trans d4
   replace z5 := z5.trans z4
   obtain ⟨⟨-, b_g1_5⟩, ⟨-, b_g2_5⟩, ⟨l_g3_5, b_g3_5⟩, -⟩ := hBs
   replace l_g3_5 : g3 < w4.heap.size := l_g3_5
   have s3_5 := (rest5 3 (not_of (by kernel_rfl))).trans s3_4
   have s6_5 := (rest5 6 (not_of (by kernel_rfl))).trans s6_4
   have s10_5 := (rest5 10 (not_of (by kernel_rfl))).trans s10_4
   have s11_5 := (rest5 11 (not_of (by kernel_rfl))).trans s11_4
   have s13_5 := (rest5 13 (not_of (by kernel_rfl))).trans u_g3
   have s14_5 := (rest5 14 (not_of (by kernel_rfl))).trans s14_4
   have s41_5 : a5.tmps.getD 41 undef = .bool false := R5 1 _ rfl
   clear R5 rest5 hS hfl hPs hAs
   clear u_g3 s3_4 s6_4 s10_4 s11_4 s12_4 s14_4 b_g1_4 b_g2_4 b_g3_4 d4 z4
   refine wp_cond_false (show a5.tmps.getD 41 undef = .bool false from s41_5) ?_
   refine wp_skip ?_
   refine wp_seq ?_
   refine wp_regx (SX W w5.heap.size [⟨g1, 60, (cR a b c d), none, #[]⟩, ⟨g2, 60, (cR p q r t), none, #[]⟩, ⟨g3, 60, (cR ((Rg.giv cc ⟨⟨a, b⟩, ⟨c, d⟩⟩ ⟨⟨p, q⟩, ⟨r, t⟩⟩).u.lo) ((Rg.giv cc ⟨⟨a, b⟩, ⟨c, d⟩⟩ ⟨⟨p, q⟩, ⟨r, t⟩⟩).u.hi) ((Rg.giv cc ⟨⟨a, b⟩, ⟨c, d⟩⟩ ⟨⟨p, q⟩, ⟨r, t⟩⟩).s.lo) ((Rg.giv cc ⟨⟨a, b⟩, ⟨c, d⟩⟩ ⟨⟨p, q⟩, ⟨r, t⟩⟩).s.hi)), none, #[]⟩] []) (TabX [fun vx => vx = .bool false, fun vx => vx = .bool true, fun vx => vx = .bool true, fun vx => vx = undef, fun vx => vx = undef, fun vx => vx = undef, fun vx => vx = undef, fun vx => vx = undef, fun vx => vx = undef, fun vx => vx = .bool true, fun vx => vx = .bool true, fun vx => vx = .bool true, fun vx => vx = .bool false, fun vx => vx = .bool false, fun vx => vx = .agg #[.int .u64 ((Rg.giv cc ⟨⟨a, b⟩, ⟨c, d⟩⟩ ⟨⟨p, q⟩, ⟨r, t⟩⟩).u.lo), .int .u64 ((Rg.giv cc ⟨⟨a, b⟩, ⟨c, d⟩⟩ ⟨⟨p, q⟩, ⟨r, t⟩⟩).u.hi), .int .i64 ((Rg.giv cc ⟨⟨a, b⟩, ⟨c, d⟩⟩ ⟨⟨p, q⟩, ⟨r, t⟩⟩).s.lo), .int .i64 ((Rg.giv cc ⟨⟨a, b⟩, ⟨c, d⟩⟩ ⟨⟨p, q⟩, ⟨r, t⟩⟩).s.hi)], fun vx => vx = .agg #[.int .u64 a, .int .u64 b, .int .i64 c, .int .i64 d], fun vx => vx = .bool true, fun vx => vx = .bool true, fun vx => vx = .bool true, fun vx => vx = .bool true, fun vx => vx = .bool true, fun vx => vx = .bool true, fun vx => vx = .bool true]) (by kernel_rfl) (back_of (by kernel_rfl)) (dst_of (by kernel_rfl)) (in_ofz (by kernel_rfl) z5) (fun fl w1 hfl hw => SX.start' hw B5 hfl rfl ⟨b_g1_5, b_g2_5, b_g3_5, trivial⟩) ?h15 ?_
   case h15 =>
     intro ix ox ax wx fl ho hS hfi clo hsz hrest hdone hund
     have t3 := (hrest 3 (not_of (by kernel_rfl))).trans s3_5
     have t6 := (hrest 6 (not_of (by kernel_rfl))).trans s6_5
     have t11 := (hrest 11 (not_of (by kernel_rfl))).trans s11_5
     have t13 := (hrest 13 (not_of (by kernel_rfl))).trans s13_5
     have t14 := (hrest 14 (not_of (by kernel_rfl))).trans s14_5
     have hs : ax.tmps.size = 69 := hsz.trans z5
     have hi : ix < 23 := (Array.getElem?_eq_some_iff.1 ho).1
     clear hrest hsz hund
     obtain rfl | rfl | rfl | rfl | rfl | rfl | rfl | rfl | rfl | rfl | rfl | rfl | rfl | rfl | rfl | rfl | rfl | rfl | rfl | rfl | rfl | rfl | rfl : ix = 0 ∨ ix = 1 ∨ ix = 2 ∨ ix = 3 ∨ ix = 4 ∨ ix = 5 ∨ ix = 6 ∨ ix = 7 ∨ ix = 8 ∨ ix = 9 ∨ ix = 10 ∨ ix = 11 ∨ ix = 12 ∨ ix = 13 ∨ ix = 14 ∨ ix = 15 ∨ ix = 16 ∨ ix = 17 ∨ ix = 18 ∨ ix = 19 ∨ ix = 20 ∨ ix = 21 ∨ ix = 22 := by omega
     all_goals obtain rfl := Option.some.inj (show some _ = some ox from ho)
     ·
      exact wpOp_val (v := .bool false) (w' := wx) rfl rfl (by simp [execOp, Act.eval, t11]) ⟨_, rfl, tab_put rfl hs rfl rfl, hS.same 0 rfl⟩
     ·
      have s47 : ax.tmps.getD 47 undef = .bool false := (hdone 0 _ rfl rfl).2 _ rfl
      exact wpOp_val (v := .bool true) (w' := wx) rfl rfl (by simp [execOp, Act.eval, s47, go_sem]) ⟨_, rfl, tab_put rfl hs rfl rfl, hS.same 1 rfl⟩
     ·
      have s48 : ax.tmps.getD 48 undef = .bool true := (hdone 0 _ rfl rfl).2 _ rfl
      exact wpOp_val (v := .bool true) (w' := wx) rfl rfl (by simp [execOp, Act.eval, s48]) ⟨_, rfl, tab_put rfl hs rfl rfl, hS.same 2 rfl⟩
     ·
      have hg : ax.tmps.getD 49 undef = .bool true := (hdone 0 _ rfl rfl).2 _ rfl
      exact wpOp_no rfl (wanted_no 2 49 true hg (by rw [hs]; omega) rfl rfl rfl rfl) ⟨_, rfl, tab_put rfl hs rfl rfl, hS.same 3 rfl⟩
     ·
      have hg : ax.tmps.getD 49 undef = .bool true := (hdone 1 _ rfl rfl).2 _ rfl
      exact wpOp_no rfl (wanted_no 2 49 true hg (by rw [hs]; omega) rfl rfl rfl rfl) ⟨_, rfl, tab_put rfl hs rfl rfl, hS.same 4 rfl⟩
     ·
      have hg : ax.tmps.getD 51 undef = (bif false then .bool false else undef) := (hdone 0 _ rfl rfl).2 _ rfl
      exact wpOp_no rfl (Eq.trans (wanted_cond 4 51 false false true hg (by rw [hs]; omega) rfl rfl rfl) rfl) ⟨_, rfl, tab_put rfl hs rfl rfl, hS.same 5 rfl⟩
     ·
      have hg : ax.tmps.getD 51 undef = (bif false then .bool false else undef) := (hdone 0 _ rfl rfl).2 _ rfl
      exact wpOp_no rfl (Eq.trans (wanted_cond 4 51 false false true hg (by rw [hs]; omega) rfl rfl rfl) rfl) ⟨_, rfl, tab_put rfl hs rfl rfl, hS.same 6 rfl⟩
     ·
      have hg : ax.tmps.getD 51 undef = (bif false then .bool false else undef) := (hdone 2 _ rfl rfl).2 _ rfl
      exact wpOp_no rfl (Eq.trans (wanted_cond 4 51 false false true hg (by rw [hs]; omega) rfl rfl rfl) rfl) ⟨_, rfl, tab_put rfl hs rfl rfl, hS.same 7 rfl⟩
     ·
      have hg : ax.tmps.getD 49 undef = .bool true := (hdone 2 _ rfl rfl).2 _ rfl
      exact wpOp_no rfl (wanted_no 2 49 true hg (by rw [hs]; omega) rfl rfl rfl rfl) ⟨_, rfl, tab_put rfl hs rfl rfl, hS.same 8 rfl⟩
     ·
      have s49 : ax.tmps.getD 49 undef = .bool true := (hdone 0 _ rfl rfl).2 _ rfl
      have s55 : ax.tmps.getD 55 undef = undef := (hdone 1 _ rfl rfl).2 _ rfl
      exact wpOp_val (v := .bool true) (w' := wx) rfl rfl (by simp [execOp, Act.eval, s49, s55, go_sem]) ⟨_, rfl, tab_put rfl hs rfl rfl, hS.same 9 rfl⟩
     ·
      have s56 : ax.tmps.getD 56 undef = .bool true := (hdone 0 _ rfl rfl).2 _ rfl
      exact wpOp_val (v := .bool true) (w' := wx) rfl rfl (by simp [execOp, Act.eval, s56]) ⟨_, rfl, tab_put rfl hs rfl rfl, hS.same 10 rfl⟩
     ·
      have hg : ax.tmps.getD 57 undef = .bool true := (hdone 0 _ rfl rfl).2 _ rfl
      exact wpOp_valw (v := .bool true) (w' := wx) rfl (wanted_yes 10 57 true hg (by rw [hs]; omega) rfl rfl rfl rfl) (by simp [execOp, Act.eval, t14]) ⟨_, rfl, tab_put rfl hs rfl rfl, hS.same 11 rfl⟩
     ·
      have hg : ax.tmps.getD 57 undef = .bool true := (hdone 1 _ rfl rfl).2 _ rfl
      have s58 : ax.tmps.getD 58 undef = .bool true := (hdone 0 _ rfl rfl).2 _ rfl
      exact wpOp_valw (v := .bool false) (w' := wx) rfl (wanted_yes 10 57 true hg (by rw [hs]; omega) rfl rfl rfl rfl) (by simp [execOp, Act.eval, s58, go_sem]) ⟨_, rfl, tab_put rfl hs rfl rfl, hS.same 12 rfl⟩
     ·
      have hg : ax.tmps.getD 57 undef = .bool true := (hdone 1 _ rfl rfl).2 _ rfl
      have s59 : ax.tmps.getD 59 undef = .bool false := (hdone 0 _ rfl rfl).2 _ rfl
      exact wpOp_valw (v := .bool false) (w' := wx) rfl (wanted_yes 10 57 true hg (by rw [hs]; omega) rfl rfl rfl rfl) (by simp [execOp, Act.eval, s59]) ⟨_, rfl, tab_put rfl hs rfl rfl, hS.same 13 rfl⟩
     ·
      have hg : ax.tmps.getD 60 undef = .bool false := (hdone 0 _ rfl rfl).2 _ rfl
      have hr := hS.rowNi 2 rfl
      exact wpOp_valw (v := .agg #[.int .u64 ((Rg.giv cc ⟨⟨a, b⟩, ⟨c, d⟩⟩ ⟨⟨p, q⟩, ⟨r, t⟩⟩).u.lo), .int .u64 ((Rg.giv cc ⟨⟨a, b⟩, ⟨c, d⟩⟩ ⟨⟨p, q⟩, ⟨r, t⟩⟩).u.hi), .int .i64 ((Rg.giv cc ⟨⟨a, b⟩, ⟨c, d⟩⟩ ⟨⟨p, q⟩, ⟨r, t⟩⟩).s.lo), .int .i64 ((Rg.giv cc ⟨⟨a, b⟩, ⟨c, d⟩⟩ ⟨⟨p, q⟩, ⟨r, t⟩⟩).s.hi)]) (w' := wx) rfl (wanted_yes 13 60 false hg (by rw [hs]; omega) rfl rfl rfl rfl) (exec_loadR 60 _ rfl g3 0 (show ax.eval (.tmp 13) = .pointer (some ⟨g3, 0, none⟩) from t13) hr [.int .u64 ((Rg.giv cc ⟨⟨a, b⟩, ⟨c, d⟩⟩ ⟨⟨p, q⟩, ⟨r, t⟩⟩).u.lo), .int .u64 ((Rg.giv cc ⟨⟨a, b⟩, ⟨c, d⟩⟩ ⟨⟨p, q⟩, ⟨r, t⟩⟩).u.hi), .int .i64 ((Rg.giv cc ⟨⟨a, b⟩, ⟨c, d⟩⟩ ⟨⟨p, q⟩, ⟨r, t⟩⟩).s.lo), .int .i64 ((Rg.giv cc ⟨⟨a, b⟩, ⟨c, d⟩⟩ ⟨⟨p, q⟩, ⟨r, t⟩⟩).s.hi)] rfl _ Try.underlying60 rfl (by kernel_rfl)) ⟨_, rfl, tab_put rfl hs rfl rfl, hS.same 14 rfl⟩
     ·
      have hg : ax.tmps.getD 60 undef = .bool false := (hdone 0 _ rfl rfl).2 _ rfl
      have hr := hS.rowNi 0 rfl
      exact wpOp_valw (v := .agg #[.int .u64 a, .int .u64 b, .int .i64 c, .int .i64 d]) (w' := wx) rfl (wanted_yes 13 60 false hg (by rw [hs]; omega) rfl rfl rfl rfl) (exec_loadR 60 _ rfl g1 0 (show ax.eval (.tmp 6) = .pointer (some ⟨g1, 0, none⟩) from t6) hr [.int .u64 a, .int .u64 b, .int .i64 c, .int .i64 d] rfl _ Try.underlying60 rfl (by kernel_rfl)) ⟨_, rfl, tab_put rfl hs rfl rfl, hS.same 15 rfl⟩
     ·
      have hg : ax.tmps.getD 60 undef = .bool false := (hdone 2 _ rfl rfl).2 _ rfl
      have s61 : ax.tmps.getD 61 undef = .agg #[.int .u64 ((Rg.giv cc ⟨⟨a, b⟩, ⟨c, d⟩⟩ ⟨⟨p, q⟩, ⟨r, t⟩⟩).u.lo), .int .u64 ((Rg.giv cc ⟨⟨a, b⟩, ⟨c, d⟩⟩ ⟨⟨p, q⟩, ⟨r, t⟩⟩).u.hi), .int .i64 ((Rg.giv cc ⟨⟨a, b⟩, ⟨c, d⟩⟩ ⟨⟨p, q⟩, ⟨r, t⟩⟩).s.lo), .int .i64 ((Rg.giv cc ⟨⟨a, b⟩, ⟨c, d⟩⟩ ⟨⟨p, q⟩, ⟨r, t⟩⟩).s.hi)] := (hdone 0 _ rfl rfl).2 _ rfl
      have s62 : ax.tmps.getD 62 undef = .agg #[.int .u64 a, .int .u64 b, .int .i64 c, .int .i64 d] := (hdone 1 _ rfl rfl).2 _ rfl
      refine wpOp_callw (args := #[.agg #[.int .u64 ((Rg.giv cc ⟨⟨a, b⟩, ⟨c, d⟩⟩ ⟨⟨p, q⟩, ⟨r, t⟩⟩).u.lo), .int .u64 ((Rg.giv cc ⟨⟨a, b⟩, ⟨c, d⟩⟩ ⟨⟨p, q⟩, ⟨r, t⟩⟩).u.hi), .int .i64 ((Rg.giv cc ⟨⟨a, b⟩, ⟨c, d⟩⟩ ⟨⟨p, q⟩, ⟨r, t⟩⟩).s.lo), .int .i64 ((Rg.giv cc ⟨⟨a, b⟩, ⟨c, d⟩⟩ ⟨⟨p, q⟩, ⟨r, t⟩⟩).s.hi)], .agg #[.int .u64 a, .int .u64 b, .int .i64 c, .int .i64 d]]) rfl (wanted_yes 13 60 false hg (by rw [hs]; omega) rfl rfl rfl rfl) (exec_call rfl rfl rfl (args2 (show ax.eval (.tmp 61) = .agg #[.int .u64 ((Rg.giv cc ⟨⟨a, b⟩, ⟨c, d⟩⟩ ⟨⟨p, q⟩, ⟨r, t⟩⟩).u.lo), .int .u64 ((Rg.giv cc ⟨⟨a, b⟩, ⟨c, d⟩⟩ ⟨⟨p, q⟩, ⟨r, t⟩⟩).u.hi), .int .i64 ((Rg.giv cc ⟨⟨a, b⟩, ⟨c, d⟩⟩ ⟨⟨p, q⟩, ⟨r, t⟩⟩).s.lo), .int .i64 ((Rg.giv cc ⟨⟨a, b⟩, ⟨c, d⟩⟩ ⟨⟨p, q⟩, ⟨r, t⟩⟩).s.hi)] from s61) (show ax.eval (.tmp 62) = .agg #[.int .u64 a, .int .u64 b, .int .i64 c, .int .i64 d] from s62)) Try.func40 (by decide +kernel) rfl) ?_
      · refine (in_n ((Rg.giv cc ⟨⟨a, b⟩, ⟨c, d⟩⟩ ⟨⟨p, q⟩, ⟨r, t⟩⟩).u.lo) ((Rg.giv cc ⟨⟨a, b⟩, ⟨c, d⟩⟩ ⟨⟨p, q⟩, ⟨r, t⟩⟩).u.hi) ((Rg.giv cc ⟨⟨a, b⟩, ⟨c, d⟩⟩ ⟨⟨p, q⟩, ⟨r, t⟩⟩).s.lo) ((Rg.giv cc ⟨⟨a, b⟩, ⟨c, d⟩⟩ ⟨⟨p, q⟩, ⟨r, t⟩⟩).s.hi) a b c d wx).mono ?_
        rintro e w' ⟨rfl, b9⟩
        exact ⟨_, rfl, _, rfl, tab_put rfl hs rfl (congrArg Value.bool (giv_in_a Ffk4.out)), hS.quiet 16 rfl b9⟩
     ·
      have hg : ax.tmps.getD 57 undef = .bool true := (hdone 2 _ rfl rfl).2 _ rfl
      have s60 : ax.tmps.getD 60 undef = .bool false := (hdone 0 _ rfl rfl).2 _ rfl
      have s63 : ax.tmps.getD 63 undef = .bool true := (hdone 1 _ rfl rfl).2 _ rfl
      exact wpOp_valw (v := .bool true) (w' := wx) rfl (wanted_yes 10 57 true hg (by rw [hs]; omega) rfl rfl rfl rfl) (by simp [execOp, Act.eval, s60, s63, go_sem]) ⟨_, rfl, tab_put rfl hs rfl rfl, hS.same 17 rfl⟩
     ·
      have s57 : ax.tmps.getD 57 undef = .bool true := (hdone 0 _ rfl rfl).2 _ rfl
      have s64 : ax.tmps.getD 64 undef = .bool true := (hdone 1 _ rfl rfl).2 _ rfl
      exact wpOp_val (v := .bool true) (w' := wx) rfl rfl (by simp [execOp, Act.eval, s57, s64, go_sem]) ⟨_, rfl, tab_put rfl hs rfl rfl, hS.same 18 rfl⟩
     ·
      have s65 : ax.tmps.getD 65 undef = .bool true := (hdone 0 _ rfl rfl).2 _ rfl
      exact wpOp_val (v := .bool true) (w' := wx) rfl rfl (by simp [execOp, Act.eval, s65]) ⟨_, rfl, tab_put rfl hs rfl rfl, hS.same 19 rfl⟩
     ·
      have hg : ax.tmps.getD 66 undef = .bool true := (hdone 0 _ rfl rfl).2 _ rfl
      refine wpOp_callw (args := #[]) rfl (wanted_yes 19 66 true hg (by rw [hs]; omega) rfl rfl rfl rfl) (exec_call rfl rfl rfl (args0 ) Try.func46 (by decide +kernel) rfl) ?_
      · refine (wakes_n wx).mono ?_
        rintro e w' ⟨rfl, b9⟩
        exact ⟨_, rfl, _, rfl, tab_put rfl hs rfl rfl, hS.quiet 20 rfl b9⟩
     ·
      have s66 : ax.tmps.getD 66 undef = .bool true := (hdone 0 _ rfl rfl).2 _ rfl
      have s67 : ax.tmps.getD 67 undef = .bool true := (hdone 1 _ rfl rfl).2 _ rfl
      exact wpOp_val (v := .bool true) (w' := wx) rfl rfl (by simp [execOp, Act.eval, s66, s67, go_sem]) ⟨_, rfl, tab_put rfl hs rfl rfl, hS.same 21 rfl⟩
     ·
      have s68 : ax.tmps.getD 68 undef = .bool true := (hdone 0 _ rfl rfl).2 _ rfl
      exact wpOp_val (v := .bool true) (w' := wx) rfl rfl (by simp [execOp, Act.eval, s68]) ⟨_, rfl, tab_put rfl hs rfl rfl, hS.same 22 rfl⟩
   intro a6 w6 fl d6 z6 rest6 R6 hfl hS
   obtain ⟨B6, n6, hBs, hAs, hPs⟩ := hS.finish hfl rfl
   replace d6 := d6.trans d5
   replace z6 := z6.trans z5
   obtain ⟨⟨-, b_g1_6⟩, ⟨-, b_g2_6⟩, ⟨-, b_g3_6⟩, -⟩ := hBs
   have s10_6 : a6.tmps.getD 10 undef = .bool true := R6 22 _ rfl
   clear R6 rest6 hS hfl hPs hAs
   clear s3_5 s6_5 s10_5 s11_5 s13_5 s14_5 s41_5 b_g1_5 b_g2_5 b_g3_5 d5 z5
   refine wp_ret ?_
   try simp only [Exit.inBlock, Exit.then]
   refine bodyPost_ret (res_t (fn := Try.f9) rfl s10_6) d6 ?_
   exact ⟨rfl, B6⟩
  have Ffk3 := Lib.hid fk3; clear fk3
  refine wp_regx (SX W w2.heap.size [⟨g1, 60, (cR a b c d), none, #[]⟩, ⟨g2, 60, (cR p q r t), none, #[]⟩] []) (TabX [fun vx => vx = .int .i8 cc, fun vx => vx = .int .u64 v, fun vx => vx = .int .u64 u, fun vx => vx = .tuple #[.bool (holdsB cc 64 v u), .int .i64 (holdsE cc 64)], fun vx => vx = .tuple #[.bool (holdsB cc 64 v u), .int .i64 (holdsE cc 64)], fun vx => vx = .bool true, fun vx => vx = .int .i64 (holdsE cc 64), fun vx => vx = .bool true, fun vx => vx = .int .i64 (holdsE cc 64)]) (by kernel_rfl) (back_of (by kernel_rfl)) (dst_of (by kernel_rfl)) (in_ofz (by kernel_rfl) z2) (fun fl w1 hfl hw => SX.start' hw B2 hfl rfl ⟨b_g1_2, b_g2_2, trivial⟩) ?h16 ?_
  case h16 =>
    intro ix ox ax wx fl ho hS hfi clo hsz hrest hdone hund
    have t0 := (hrest 0 (not_of (by kernel_rfl))).trans s0_2
    have t3 := (hrest 3 (not_of (by kernel_rfl))).trans s3_2
    have t4 := (hrest 4 (not_of (by kernel_rfl))).trans s4_2
    have hs : ax.tmps.size = 69 := hsz.trans z2
    have hi : ix < 9 := (Array.getElem?_eq_some_iff.1 ho).1
    clear hrest hsz hund
    obtain rfl | rfl | rfl | rfl | rfl | rfl | rfl | rfl | rfl : ix = 0 ∨ ix = 1 ∨ ix = 2 ∨ ix = 3 ∨ ix = 4 ∨ ix = 5 ∨ ix = 6 ∨ ix = 7 ∨ ix = 8 := by omega
    all_goals obtain rfl := Option.some.inj (show some _ = some ox from ho)
    ·
     exact wpOp_val (v := .int .i8 cc) (w' := wx) rfl rfl (by simp [execOp, Act.eval, t0]) ⟨_, rfl, tab_put rfl hs rfl rfl, hS.same 0 rfl⟩
    ·
     exact wpOp_val (v := .int .u64 v) (w' := wx) rfl rfl (by simp [execOp, Act.eval, t3]) ⟨_, rfl, tab_put rfl hs rfl rfl, hS.same 1 rfl⟩
    ·
     exact wpOp_val (v := .int .u64 u) (w' := wx) rfl rfl (by simp [execOp, Act.eval, t4]) ⟨_, rfl, tab_put rfl hs rfl rfl, hS.same 2 rfl⟩
    ·
     have s27 : ax.tmps.getD 27 undef = .int .i8 cc := (hdone 0 _ rfl rfl).2 _ rfl
     have s28 : ax.tmps.getD 28 undef = .int .u64 v := (hdone 1 _ rfl rfl).2 _ rfl
     have s29 : ax.tmps.getD 29 undef = .int .u64 u := (hdone 2 _ rfl rfl).2 _ rfl
     refine wpOp_call (args := #[.int .i8 cc, .int .i8 64, .int .u64 v, .int .u64 u]) rfl rfl (exec_call rfl rfl rfl (args4 (show ax.eval (.tmp 27) = .int .i8 cc from s27) (show ax.eval (.const (.int .i8 64)) = .int .i8 64 from rfl) (show ax.eval (.tmp 28) = .int .u64 v from s28) (show ax.eval (.tmp 29) = .int .u64 u from s29)) Try.func49 (by decide +kernel) rfl) ?_
     · refine (holds_any cc 64 v u wx HN.out.1.1 HN.out.1.2 HN.out.2.1 HN.out.2.2).mono ?_
       rintro e w' ⟨rfl, rfl⟩
       exact ⟨_, rfl, _, rfl, tab_put rfl hs rfl rfl, hS.quiet 3 rfl (Below.refl _ _)⟩
    ·
     have s30 : ax.tmps.getD 30 undef = .tuple #[.bool (holdsB cc 64 v u), .int .i64 (holdsE cc 64)] := (hdone 0 _ rfl rfl).2 _ rfl
     exact wpOp_val (v := .tuple #[.bool (holdsB cc 64 v u), .int .i64 (holdsE cc 64)]) (w' := wx) rfl rfl (by simp [execOp, Act.eval, s30]) ⟨_, rfl, tab_put rfl hs rfl rfl, hS.same 4 rfl⟩
    ·
     have s26 : ax.tmps.getD 26 undef = .tuple #[.bool (holdsB cc 64 v u), .int .i64 (holdsE cc 64)] := (hdone 0 _ rfl rfl).2 _ rfl
     exact wpOp_val (v := .bool (holdsB cc 64 v u)) (w' := wx) rfl rfl (by simp [execOp, Act.eval, s26, go_sem]) ⟨_, rfl, tab_put rfl hs rfl (congrArg Value.bool Ffk3.out), hS.same 5 rfl⟩
    ·
     have s26 : ax.tmps.getD 26 undef = .tuple #[.bool (holdsB cc 64 v u), .int .i64 (holdsE cc 64)] := (hdone 0 _ rfl rfl).2 _ rfl
     exact wpOp_val (v := .int .i64 (holdsE cc 64)) (w' := wx) rfl rfl (by simp [execOp, Act.eval, s26, go_sem]) ⟨_, rfl, tab_put rfl hs rfl rfl, hS.same 6 rfl⟩
    ·
     have s31 : ax.tmps.getD 31 undef = .bool true := (hdone 0 _ rfl rfl).2 _ rfl
     exact wpOp_val (v := .bool true) (w' := wx) rfl rfl (by simp [execOp, Act.eval, s31]) ⟨_, rfl, tab_put rfl hs rfl rfl, hS.same 7 rfl⟩
    ·
     have s32 : ax.tmps.getD 32 undef = .int .i64 (holdsE cc 64) := (hdone 0 _ rfl rfl).2 _ rfl
     exact wpOp_val (v := .int .i64 (holdsE cc 64)) (w' := wx) rfl rfl (by simp [execOp, Act.eval, s32]) ⟨_, rfl, tab_put rfl hs rfl rfl, hS.same 8 rfl⟩
  intro a3 w3 fl d3 z3 rest3 R3 hfl hS
  obtain ⟨B3, n3, hBs, hAs, hPs⟩ := hS.finish hfl rfl
  replace d3 := d3.trans d2
  replace z3 := z3.trans z2
  obtain ⟨⟨-, b_g1_3⟩, ⟨-, b_g2_3⟩, -⟩ := hBs
  have s0_3 := (rest3 0 (not_of (by kernel_rfl))).trans s0_2
  have s3_3 := (rest3 3 (not_of (by kernel_rfl))).trans s3_2
  have s6_3 := (rest3 6 (not_of (by kernel_rfl))).trans s6_2
  have s7_3 := (rest3 7 (not_of (by kernel_rfl))).trans s7_2
  have s10_3 := (rest3 10 (not_of (by kernel_rfl))).trans s10_2
  have s11_3 : a3.tmps.getD 11 undef = .bool true := R3 7 _ rfl
  have s12_3 : a3.tmps.getD 12 undef = .int .i64 (holdsE cc 64) := R3 8 _ rfl
  clear R3 rest3 hS hfl hPs hAs
  clear s0_2 s3_2 s4_2 s6_2 s7_2 s10_2 s24_2 b_g1_2 b_g2_2 d2 z2
  refine wp_seq ?_
  refine wp_regx (SX W w3.heap.size [⟨g1, 60, (cR a b c d), none, #[]⟩, ⟨g2, 60, (cR p q r t), none, #[]⟩] [⟨7, 13, 60, (cR 0 0 0 0), some 8, (cR ((Rg.giv cc ⟨⟨a, b⟩, ⟨c, d⟩⟩ ⟨⟨p, q⟩, ⟨r, t⟩⟩).u.lo) ((Rg.giv cc ⟨⟨a, b⟩, ⟨c, d⟩⟩ ⟨⟨p, q⟩, ⟨r, t⟩⟩).u.hi) ((Rg.giv cc ⟨⟨a, b⟩, ⟨c, d⟩⟩ ⟨⟨p, q⟩, ⟨r, t⟩⟩).s.lo) ((Rg.giv cc ⟨⟨a, b⟩, ⟨c, d⟩⟩ ⟨⟨p, q⟩, ⟨r, t⟩⟩).s.hi))⟩]) (TabX [fun vx => vx = .int .i8 cc, fun vx => vx = .agg #[.int .u64 a, .int .u64 b, .int .i64 c, .int .i64 d], fun vx => vx = .agg #[.int .u64 p, .int .u64 q, .int .i64 r, .int .i64 t], fun vx => vx = .tuple #[.agg #[.int .u64 ((Rg.giv cc ⟨⟨a, b⟩, ⟨c, d⟩⟩ ⟨⟨p, q⟩, ⟨r, t⟩⟩).u.lo), .int .u64 ((Rg.giv cc ⟨⟨a, b⟩, ⟨c, d⟩⟩ ⟨⟨p, q⟩, ⟨r, t⟩⟩).u.hi), .int .i64 ((Rg.giv cc ⟨⟨a, b⟩, ⟨c, d⟩⟩ ⟨⟨p, q⟩, ⟨r, t⟩⟩).s.lo), .int .i64 ((Rg.giv cc ⟨⟨a, b⟩, ⟨c, d⟩⟩ ⟨⟨p, q⟩, ⟨r, t⟩⟩).s.hi)], .bool (Rg.givB cc ⟨⟨a, b⟩, ⟨c, d⟩⟩ ⟨⟨p, q⟩, ⟨r, t⟩⟩)], fun vx => vx = .tuple #[.agg #[.int .u64 ((Rg.giv cc ⟨⟨a, b⟩, ⟨c, d⟩⟩ ⟨⟨p, q⟩, ⟨r, t⟩⟩).u.lo), .int .u64 ((Rg.giv cc ⟨⟨a, b⟩, ⟨c, d⟩⟩ ⟨⟨p, q⟩, ⟨r, t⟩⟩).u.hi), .int .i64 ((Rg.giv cc ⟨⟨a, b⟩, ⟨c, d⟩⟩ ⟨⟨p, q⟩, ⟨r, t⟩⟩).s.lo), .int .i64 ((Rg.giv cc ⟨⟨a, b⟩, ⟨c, d⟩⟩ ⟨⟨p, q⟩, ⟨r, t⟩⟩).s.hi)], .bool (Rg.givB cc ⟨⟨a, b⟩, ⟨c, d⟩⟩ ⟨⟨p, q⟩, ⟨r, t⟩⟩)], fun vx => vx = .agg #[.int .u64 ((Rg.giv cc ⟨⟨a, b⟩, ⟨c, d⟩⟩ ⟨⟨p, q⟩, ⟨r, t⟩⟩).u.lo), .int .u64 ((Rg.giv cc ⟨⟨a, b⟩, ⟨c, d⟩⟩ ⟨⟨p, q⟩, ⟨r, t⟩⟩).u.hi), .int .i64 ((Rg.giv cc ⟨⟨a, b⟩, ⟨c, d⟩⟩ ⟨⟨p, q⟩, ⟨r, t⟩⟩).s.lo), .int .i64 ((Rg.giv cc ⟨⟨a, b⟩, ⟨c, d⟩⟩ ⟨⟨p, q⟩, ⟨r, t⟩⟩).s.hi)], fun vx => vx = .bool true, fun _ => True, fun _ => True, fun vx => vx = .bool true]) (by kernel_rfl) (back_of (by kernel_rfl)) (dst_of (by kernel_rfl)) (in_ofz (by kernel_rfl) z3) (fun fl w1 hfl hw => SX.start' hw B3 hfl rfl ⟨b_g1_3, b_g2_3, trivial⟩) ?h17 ?_
  case h17 =>
    intro ix ox ax wx fl ho hS hfi clo hsz hrest hdone hund
    have t0 := (hrest 0 (not_of (by kernel_rfl))).trans s0_3
    have t6 := (hrest 6 (not_of (by kernel_rfl))).trans s6_3
    have t7 := (hrest 7 (not_of (by kernel_rfl))).trans s7_3
    have hs : ax.tmps.size = 69 := hsz.trans z3
    have hi : ix < 10 := (Array.getElem?_eq_some_iff.1 ho).1
    clear hrest hsz hund
    obtain rfl | rfl | rfl | rfl | rfl | rfl | rfl | rfl | rfl | rfl : ix = 0 ∨ ix = 1 ∨ ix = 2 ∨ ix = 3 ∨ ix = 4 ∨ ix = 5 ∨ ix = 6 ∨ ix = 7 ∨ ix = 8 ∨ ix = 9 := by omega
    all_goals obtain rfl := Option.some.inj (show some _ = some ox from ho)
    ·
     exact wpOp_val (v := .int .i8 cc) (w' := wx) rfl rfl (by simp [execOp, Act.eval, t0]) ⟨_, rfl, tab_put rfl hs rfl rfl, hS.same 0 rfl⟩
    ·
     have hr := hS.rowNi 0 rfl
     exact wpOp_val (v := .agg #[.int .u64 a, .int .u64 b, .int .i64 c, .int .i64 d]) (w' := wx) rfl rfl (exec_loadR 60 _ rfl g1 0 (show ax.eval (.tmp 6) = .pointer (some ⟨g1, 0, none⟩) from t6) hr [.int .u64 a, .int .u64 b, .int .i64 c, .int .i64 d] rfl _ Try.underlying60 rfl (by kernel_rfl)) ⟨_, rfl, tab_put rfl hs rfl rfl, hS.same 1 rfl⟩
    ·
     have hr := hS.rowNi 1 rfl
     exact wpOp_val (v := .agg #[.int .u64 p, .int .u64 q, .int .i64 r, .int .i64 t]) (w' := wx) rfl rfl (exec_loadR 60 _ rfl g2 0 (show ax.eval (.tmp 7) = .pointer (some ⟨g2, 0, none⟩) from t7) hr [.int .u64 p, .int .u64 q, .int .i64 r, .int .i64 t] rfl _ Try.underlying60 rfl (by kernel_rfl)) ⟨_, rfl, tab_put rfl hs rfl rfl, hS.same 2 rfl⟩
    ·
     have s34 : ax.tmps.getD 34 undef = .int .i8 cc := (hdone 0 _ rfl rfl).2 _ rfl
     have s35 : ax.tmps.getD 35 undef = .agg #[.int .u64 a, .int .u64 b, .int .i64 c, .int .i64 d] := (hdone 1 _ rfl rfl).2 _ rfl
     have s36 : ax.tmps.getD 36 undef = .agg #[.int .u64 p, .int .u64 q, .int .i64 r, .int .i64 t] := (hdone 2 _ rfl rfl).2 _ rfl
     refine wpOp_call (args := #[.int .i8 cc, .agg #[.int .u64 a, .int .u64 b, .int .i64 c, .int .i64 d], .agg #[.int .u64 p, .int .u64 q, .int .i64 r, .int .i64 t]]) rfl rfl (exec_call rfl rfl rfl (args3 (show ax.eval (.tmp 34) = .int .i8 cc from s34) (show ax.eval (.tmp 35) = .agg #[.int .u64 a, .int .u64 b, .int .i64 c, .int .i64 d] from s35) (show ax.eval (.tmp 36) = .agg #[.int .u64 p, .int .u64 q, .int .i64 r, .int .i64 t] from s36)) Try.func24 (by decide +kernel) rfl) ?_
     · refine (given_n cc a b c d p q r t wx HA.out HB.out).mono ?_
       rintro e w' ⟨rfl, b9⟩
       exact ⟨_, rfl, _, rfl, tab_put rfl hs rfl rfl, hS.quiet 3 rfl b9⟩
    ·
     have s37 : ax.tmps.getD 37 undef = .tuple #[.agg #[.int .u64 ((Rg.giv cc ⟨⟨a, b⟩, ⟨c, d⟩⟩ ⟨⟨p, q⟩, ⟨r, t⟩⟩).u.lo), .int .u64 ((Rg.giv cc ⟨⟨a, b⟩, ⟨c, d⟩⟩ ⟨⟨p, q⟩, ⟨r, t⟩⟩).u.hi), .int .i64 ((Rg.giv cc ⟨⟨a, b⟩, ⟨c, d⟩⟩ ⟨⟨p, q⟩, ⟨r, t⟩⟩).s.lo), .int .i64 ((Rg.giv cc ⟨⟨a, b⟩, ⟨c, d⟩⟩ ⟨⟨p, q⟩, ⟨r, t⟩⟩).s.hi)], .bool (Rg.givB cc ⟨⟨a, b⟩, ⟨c, d⟩⟩ ⟨⟨p, q⟩, ⟨r, t⟩⟩)] := (hdone 0 _ rfl rfl).2 _ rfl
     exact wpOp_val (v := .tuple #[.agg #[.int .u64 ((Rg.giv cc ⟨⟨a, b⟩, ⟨c, d⟩⟩ ⟨⟨p, q⟩, ⟨r, t⟩⟩).u.lo), .int .u64 ((Rg.giv cc ⟨⟨a, b⟩, ⟨c, d⟩⟩ ⟨⟨p, q⟩, ⟨r, t⟩⟩).u.hi), .int .i64 ((Rg.giv cc ⟨⟨a, b⟩, ⟨c, d⟩⟩ ⟨⟨p, q⟩, ⟨r, t⟩⟩).s.lo), .int .i64 ((Rg.giv cc ⟨⟨a, b⟩, ⟨c, d⟩⟩ ⟨⟨p, q⟩, ⟨r, t⟩⟩).s.hi)], .bool (Rg.givB cc ⟨⟨a, b⟩, ⟨c, d⟩⟩ ⟨⟨p, q⟩, ⟨r, t⟩⟩)]) (w' := wx) rfl rfl (by (revert s37; generalize (.tuple #[.agg #[.int .u64 ((Rg.giv cc ⟨⟨a, b⟩, ⟨c, d⟩⟩ ⟨⟨p, q⟩, ⟨r, t⟩⟩).u.lo), .int .u64 ((Rg.giv cc ⟨⟨a, b⟩, ⟨c, d⟩⟩ ⟨⟨p, q⟩, ⟨r, t⟩⟩).u.hi), .int .i64 ((Rg.giv cc ⟨⟨a, b⟩, ⟨c, d⟩⟩ ⟨⟨p, q⟩, ⟨r, t⟩⟩).s.lo), .int .i64 ((Rg.giv cc ⟨⟨a, b⟩, ⟨c, d⟩⟩ ⟨⟨p, q⟩, ⟨r, t⟩⟩).s.hi)], .bool (Rg.givB cc ⟨⟨a, b⟩, ⟨c, d⟩⟩ ⟨⟨p, q⟩, ⟨r, t⟩⟩)] : Value) = y0; intro s37); simp [execOp, Act.eval, s37]) ⟨_, rfl, tab_put rfl hs rfl rfl, hS.same 4 rfl⟩
    ·
     have s33 : ax.tmps.getD 33 undef = .tuple #[.agg #[.int .u64 ((Rg.giv cc ⟨⟨a, b⟩, ⟨c, d⟩⟩ ⟨⟨p, q⟩, ⟨r, t⟩⟩).u.lo), .int .u64 ((Rg.giv cc ⟨⟨a, b⟩, ⟨c, d⟩⟩ ⟨⟨p, q⟩, ⟨r, t⟩⟩).u.hi), .int .i64 ((Rg.giv cc ⟨⟨a, b⟩, ⟨c, d⟩⟩ ⟨⟨p, q⟩, ⟨r, t⟩⟩).s.lo), .int .i64 ((Rg.giv cc ⟨⟨a, b⟩, ⟨c, d⟩⟩ ⟨⟨p, q⟩, ⟨r, t⟩⟩).s.hi)], .bool (Rg.givB cc ⟨⟨a, b⟩, ⟨c, d⟩⟩ ⟨⟨p, q⟩, ⟨r, t⟩⟩)] := (hdone 0 _ rfl rfl).2 _ rfl
     exact wpOp_val (v := .agg #[.int .u64 ((Rg.giv cc ⟨⟨a, b⟩, ⟨c, d⟩⟩ ⟨⟨p, q⟩, ⟨r, t⟩⟩).u.lo), .int .u64 ((Rg.giv cc ⟨⟨a, b⟩, ⟨c, d⟩⟩ ⟨⟨p, q⟩, ⟨r, t⟩⟩).u.hi), .int .i64 ((Rg.giv cc ⟨⟨a, b⟩, ⟨c, d⟩⟩ ⟨⟨p, q⟩, ⟨r, t⟩⟩).s.lo), .int .i64 ((Rg.giv cc ⟨⟨a, b⟩, ⟨c, d⟩⟩ ⟨⟨p, q⟩, ⟨r, t⟩⟩).s.hi)]) (w' := wx) rfl rfl (by simp [execOp, Act.eval, s33, go_sem]) ⟨_, rfl, tab_put rfl hs rfl rfl, hS.same 5 rfl⟩
    ·
     have s33 : ax.tmps.getD 33 undef = .tuple #[.agg #[.int .u64 ((Rg.giv cc ⟨⟨a, b⟩, ⟨c, d⟩⟩ ⟨⟨p, q⟩, ⟨r, t⟩⟩).u.lo), .int .u64 ((Rg.giv cc ⟨⟨a, b⟩, ⟨c, d⟩⟩ ⟨⟨p, q⟩, ⟨r, t⟩⟩).u.hi), .int .i64 ((Rg.giv cc ⟨⟨a, b⟩, ⟨c, d⟩⟩ ⟨⟨p, q⟩, ⟨r, t⟩⟩).s.lo), .int .i64 ((Rg.giv cc ⟨⟨a, b⟩, ⟨c, d⟩⟩ ⟨⟨p, q⟩, ⟨r, t⟩⟩).s.hi)], .bool (Rg.givB cc ⟨⟨a, b⟩, ⟨c, d⟩⟩ ⟨⟨p, q⟩, ⟨r, t⟩⟩)] := (hdone 0 _ rfl rfl).2 _ rfl
     exact wpOp_val (v := .bool (Rg.givB cc ⟨⟨a, b⟩, ⟨c, d⟩⟩ ⟨⟨p, q⟩, ⟨r, t⟩⟩)) (w' := wx) rfl rfl (by simp [execOp, Act.eval, s33, go_sem]) ⟨_, rfl, tab_put rfl hs rfl (congrArg Value.bool (K1.out Ffk1.out Ffk2.out Ffk3.out).1), hS.same 6 rfl⟩
    ·
     refine wpOp_val (v := .pointer (some ⟨wx.heap.size, 0, none⟩)) (w' := wx.alloc (.cells #[.int .u64 0, .int .u64 0, .int .i64 0, .int .i64 0] 60)) rfl rfl ?_ ⟨_, rfl, trivial, hS.alloc 7 13 60 #[.int .u64 0, .int .u64 0, .int .i64 0, .int .i64 0] [] [] (some 8) #[.int .u64 ((Rg.giv cc ⟨⟨a, b⟩, ⟨c, d⟩⟩ ⟨⟨p, q⟩, ⟨r, t⟩⟩).u.lo), .int .u64 ((Rg.giv cc ⟨⟨a, b⟩, ⟨c, d⟩⟩ ⟨⟨p, q⟩, ⟨r, t⟩⟩).u.hi), .int .i64 ((Rg.giv cc ⟨⟨a, b⟩, ⟨c, d⟩⟩ ⟨⟨p, q⟩, ⟨r, t⟩⟩).s.lo), .int .i64 ((Rg.giv cc ⟨⟨a, b⟩, ⟨c, d⟩⟩ ⟨⟨p, q⟩, ⟨r, t⟩⟩).s.hi)] rfl rfl rfl (by rw [hs]; omega) (not_yet clo hfi (by kernel_rfl))⟩
     · simp [execOp, Act.eval, go_sem]
    ·
     have hd13 := (hdone 0 _ rfl rfl).1
     obtain ⟨g3, s13, n13, r13⟩ := SX.rowA hS [] [] 7 13 60 _ _ 8 rfl hd13 hfi
     have s13 : ax.tmps.getD 13 undef = .pointer (some ⟨g3, 0, none⟩) := s13
     have s38 : ax.tmps.getD 38 undef = .agg #[.int .u64 ((Rg.giv cc ⟨⟨a, b⟩, ⟨c, d⟩⟩ ⟨⟨p, q⟩, ⟨r, t⟩⟩).u.lo), .int .u64 ((Rg.giv cc ⟨⟨a, b⟩, ⟨c, d⟩⟩ ⟨⟨p, q⟩, ⟨r, t⟩⟩).u.hi), .int .i64 ((Rg.giv cc ⟨⟨a, b⟩, ⟨c, d⟩⟩ ⟨⟨p, q⟩, ⟨r, t⟩⟩).s.lo), .int .i64 ((Rg.giv cc ⟨⟨a, b⟩, ⟨c, d⟩⟩ ⟨⟨p, q⟩, ⟨r, t⟩⟩).s.hi)] := (hdone 1 _ rfl rfl).2 _ rfl
     have hr : wx.heap[g3]? = some (.cells #[.int .u64 0, .int .u64 0, .int .i64 0, .int .i64 0] 60 (0, 0)) := r13
     exact wpOp_skp (w' := wx.setRow g3 #[.int .u64 ((Rg.giv cc ⟨⟨a, b⟩, ⟨c, d⟩⟩ ⟨⟨p, q⟩, ⟨r, t⟩⟩).u.lo), .int .u64 ((Rg.giv cc ⟨⟨a, b⟩, ⟨c, d⟩⟩ ⟨⟨p, q⟩, ⟨r, t⟩⟩).u.hi), .int .i64 ((Rg.giv cc ⟨⟨a, b⟩, ⟨c, d⟩⟩ ⟨⟨p, q⟩, ⟨r, t⟩⟩).s.lo), .int .i64 ((Rg.giv cc ⟨⟨a, b⟩, ⟨c, d⟩⟩ ⟨⟨p, q⟩, ⟨r, t⟩⟩).s.hi)]) rfl rfl (exec_storeR 60 _ _ rfl g3 #[.int .u64 ((Rg.giv cc ⟨⟨a, b⟩, ⟨c, d⟩⟩ ⟨⟨p, q⟩, ⟨r, t⟩⟩).u.lo), .int .u64 ((Rg.giv cc ⟨⟨a, b⟩, ⟨c, d⟩⟩ ⟨⟨p, q⟩, ⟨r, t⟩⟩).u.hi), .int .i64 ((Rg.giv cc ⟨⟨a, b⟩, ⟨c, d⟩⟩ ⟨⟨p, q⟩, ⟨r, t⟩⟩).s.lo), .int .i64 ((Rg.giv cc ⟨⟨a, b⟩, ⟨c, d⟩⟩ ⟨⟨p, q⟩, ⟨r, t⟩⟩).s.hi)] (show ax.eval (.tmp 13) = .pointer (some ⟨g3, 0, none⟩) from s13) (show ax.eval (.tmp 38) = .agg #[.int .u64 ((Rg.giv cc ⟨⟨a, b⟩, ⟨c, d⟩⟩ ⟨⟨p, q⟩, ⟨r, t⟩⟩).u.lo), .int .u64 ((Rg.giv cc ⟨⟨a, b⟩, ⟨c, d⟩⟩ ⟨⟨p, q⟩, ⟨r, t⟩⟩).u.hi), .int .i64 ((Rg.giv cc ⟨⟨a, b⟩, ⟨c, d⟩⟩ ⟨⟨p, q⟩, ⟨r, t⟩⟩).s.lo), .int .i64 ((Rg.giv cc ⟨⟨a, b⟩, ⟨c, d⟩⟩ ⟨⟨p, q⟩, ⟨r, t⟩⟩).s.hi)] from s38) hr (by kernel_rfl) rfl (by simp [Value.oneCell'])) ⟨undef, rfl, trivial, hS.storeA 8 7 13 60 #[.int .u64 0, .int .u64 0, .int .i64 0, .int .i64 0] #[.int .u64 ((Rg.giv cc ⟨⟨a, b⟩, ⟨c, d⟩⟩ ⟨⟨p, q⟩, ⟨r, t⟩⟩).u.lo), .int .u64 ((Rg.giv cc ⟨⟨a, b⟩, ⟨c, d⟩⟩ ⟨⟨p, q⟩, ⟨r, t⟩⟩).u.hi), .int .i64 ((Rg.giv cc ⟨⟨a, b⟩, ⟨c, d⟩⟩ ⟨⟨p, q⟩, ⟨r, t⟩⟩).s.lo), .int .i64 ((Rg.giv cc ⟨⟨a, b⟩, ⟨c, d⟩⟩ ⟨⟨p, q⟩, ⟨r, t⟩⟩).s.hi)] [] [] rfl B3.size hd13 g3 s13 (by decide) rfl (stored_setRow wx g3 _ _ _ hr)⟩
    ·
     have s39 : ax.tmps.getD 39 undef = .bool true := (hdone 0 _ rfl rfl).2 _ rfl
     exact wpOp_val (v := .bool true) (w' := wx) rfl rfl (by simp [execOp, Act.eval, s39]) ⟨_, rfl, tab_put rfl hs rfl rfl, hS.same 9 rfl⟩
  intro a4 w4 fl d4 z4 rest4 R4 hfl hS
  obtain ⟨B4, n4, hBs, hAs, hPs⟩ := hS.finish hfl rfl
  replace d4 := d4.trans d3
  replace z4 := z4.trans z3
  obtain ⟨⟨-, b_g1_4⟩, ⟨-, b_g2_4⟩, -⟩ := hBs
  obtain ⟨⟨g3, u_g3, q_g3, b_g3_4⟩, -⟩ := hAs
  replace u_g3 : a4.tmps.getD 13 undef = .pointer (some ⟨g3, 0, none⟩) := u_g3
  have m_g3 : w3.heap.size ≤ g3 := q_g3
  replace q_g3 : W.heap.size ≤ g3 := Nat.le_trans B3.size q_g3
  have s3_4 := (rest4 3 (not_of (by kernel_rfl))).trans s3_3
  have s6_4 := (rest4 6 (not_of (by kernel_rfl))).trans s6_3
  have s10_4 := (rest4 10 (not_of (by kernel_rfl))).trans s10_3
  have s11_4 := (rest4 11 (not_of (by kernel_rfl))).trans s11_3
  have s12_4 := (rest4 12 (not_of (by kernel_rfl))).trans s12_3
  have s14_4 : a4.tmps.getD 14 undef = .bool true := R4 9 _ rfl
  clear R4 rest4 hS hfl hPs
  clear s0_3 s3_3 s6_3 s7_3 s10_3 s11_3 s12_3 b_g1_3 b_g2_3 d3 z3
  refine wp_seq ?_
  refine wp_seq ?_
  refine wp_regx (SX W w4.heap.size [⟨g1, 60, (cR a b c d), none, #[]⟩, ⟨g2, 60, (cR p q r t), none, #[]⟩, ⟨g3, 60, (cR ((Rg.giv cc ⟨⟨a, b⟩, ⟨c, d⟩⟩ ⟨⟨p, q⟩, ⟨r, t⟩⟩).u.lo) ((Rg.giv cc ⟨⟨a, b⟩, ⟨c, d⟩⟩ ⟨⟨p, q⟩, ⟨r, t⟩⟩).u.hi) ((Rg.giv cc ⟨⟨a, b⟩, ⟨c, d⟩⟩ ⟨⟨p, q⟩, ⟨r, t⟩⟩).s.lo) ((Rg.giv cc ⟨⟨a, b⟩, ⟨c, d⟩⟩ ⟨⟨p, q⟩, ⟨r, t⟩⟩).s.hi)), none, #[]⟩] []) (TabX [fun vx => vx = .int .i64 (holdsE cc 64), fun vx => vx = .bool false]) (by kernel_rfl) (back_of (by kernel_rfl)) (dst_of (by kernel_rfl)) (in_ofz (by kernel_rfl) z4) (fun fl w1 hfl hw => SX.start' hw B4 hfl rfl ⟨b_g1_4, b_g2_4, b_g3_4, trivial⟩) ?h18 ?_
  case h18 =>
    intro ix ox ax wx fl ho hS hfi clo hsz hrest hdone hund
    have t12 := (hrest 12 (not_of (by kernel_rfl))).trans s12_4
    have hs : ax.tmps.size = 69 := hsz.trans z4
    have hi : ix < 2 := (Array.getElem?_eq_some_iff.1 ho).1
    clear hrest hsz hund
    obtain rfl | rfl : ix = 0 ∨ ix = 1 := by omega
    all_goals obtain rfl := Option.some.inj (show some _ = some ox from ho)
    ·
     exact wpOp_val (v := .int .i64 (holdsE cc 64)) (w' := wx) rfl rfl (by simp [execOp, Act.eval, t12]) ⟨_, rfl, tab_put rfl hs rfl rfl, hS.same 0 rfl⟩
    ·
     have s40 : ax.tmps.getD 40 undef = .int .i64 (holdsE cc 64) := (hdone 0 _ rfl rfl).2 _ rfl
     exact wpOp_val (v := .bool ((holdsE cc 64) != 0)) (w' := wx) rfl rfl (by (simp [execOp, Act.eval, s40, go_sem]; try (simp only [IntKind.wrap_i64, wrap64]))) ⟨_, rfl, tab_put rfl hs rfl (congrArg Value.bool (K2.out Ffk3.out)), hS.same 1 rfl⟩
  intro a5 w5 fl d5 z5 rest5 R5 hfl hS
  obtain ⟨B5, n5, hBs, hAs, hPs⟩ := hS.finish hfl rfl
  replace d5 := d5.trans d4
  replace z5 := z5.trans z4
  obtain ⟨⟨-, b_g1_5⟩, ⟨-, b_g2_5⟩, ⟨l_g3_5, b_g3_5⟩, -⟩ := hBs
  replace l_g3_5 : g3 < w4.heap.size := l_g3_5
  have s3_5 := (rest5 3 (not_of (by kernel_rfl))).trans s3_4
  have s6_5 := (rest5 6 (not_of (by kernel_rfl))).trans s6_4
  have s10_5 := (rest5 10 (not_of (by kernel_rfl))).trans s10_4
  have s11_5 := (rest5 11 (not_of (by kernel_rfl))).trans s11_4
  have s13_5 := (rest5 13 (not_of (by kernel_rfl))).trans u_g3
  have s14_5 := (rest5 14 (not_of (by kernel_rfl))).trans s14_4
  have s41_5 : a5.tmps.getD 41 undef = .bool false := R5 1 _ rfl
  clear R5 rest5 hS hfl hPs hAs
  clear u_g3 s3_4 s6_4 s10_4 s11_4 s12_4 s14_4 b_g1_4 b_g2_4 b_g3_4 d4 z4
  refine wp_cond_false (show a5.tmps.getD 41 undef = .bool false from s41_5) ?_
  refine wp_skip ?_
  refine wp_seq ?_
  refine wp_regx (SX W w5.heap.size [⟨g1, 60, (cR a b c d), none, #[]⟩, ⟨g2, 60, (cR p q r t), none, #[]⟩, ⟨g3, 60, (cR ((Rg.giv cc ⟨⟨a, b⟩, ⟨c, d⟩⟩ ⟨⟨p, q⟩, ⟨r, t⟩⟩).u.lo) ((Rg.giv cc ⟨⟨a, b⟩, ⟨c, d⟩⟩ ⟨⟨p, q⟩, ⟨r, t⟩⟩).u.hi) ((Rg.giv cc ⟨⟨a, b⟩, ⟨c, d⟩⟩ ⟨⟨p, q⟩, ⟨r, t⟩⟩).s.lo) ((Rg.giv cc ⟨⟨a, b⟩, ⟨c, d⟩⟩ ⟨⟨p, q⟩, ⟨r, t⟩⟩).s.hi)), none, #[]⟩] []) (TabX [fun vx => vx = .bool true, fun vx => vx = .bool false, fun vx => vx = .bool false, fun vx => vx = .bool true, fun vx => vx = .bool true, fun vx => vx = .agg #[.int .u64 ((Rg.giv cc ⟨⟨a, b⟩, ⟨c, d⟩⟩ ⟨⟨p, q⟩, ⟨r, t⟩⟩).u.lo), .int .u64 ((Rg.giv cc ⟨⟨a, b⟩, ⟨c, d⟩⟩ ⟨⟨p, q⟩, ⟨r, t⟩⟩).u.hi), .int .i64 ((Rg.giv cc ⟨⟨a, b⟩, ⟨c, d⟩⟩ ⟨⟨p, q⟩, ⟨r, t⟩⟩).s.lo), .int .i64 ((Rg.giv cc ⟨⟨a, b⟩, ⟨c, d⟩⟩ ⟨⟨p, q⟩, ⟨r, t⟩⟩).s.hi)], fun vx => vx = .int .u64 v, fun vx => vx = .bool true, fun vx => vx = .bool true, fun vx => vx = .bool true, fun vx => vx = .bool true, fun vx => vx = .bool true, fun vx => vx = .bool false, fun vx => vx = .bool false, fun vx => vx = .agg #[.int .u64 ((Rg.giv cc ⟨⟨a, b⟩, ⟨c, d⟩⟩ ⟨⟨p, q⟩, ⟨r, t⟩⟩).u.lo), .int .u64 ((Rg.giv cc ⟨⟨a, b⟩, ⟨c, d⟩⟩ ⟨⟨p, q⟩, ⟨r, t⟩⟩).u.hi), .int .i64 ((Rg.giv cc ⟨⟨a, b⟩, ⟨c, d⟩⟩ ⟨⟨p, q⟩, ⟨r, t⟩⟩).s.lo), .int .i64 ((Rg.giv cc ⟨⟨a, b⟩, ⟨c, d⟩⟩ ⟨⟨p, q⟩, ⟨r, t⟩⟩).s.hi)], fun vx => vx = .agg #[.int .u64 a, .int .u64 b, .int .i64 c, .int .i64 d], fun vx => vx = .bool true, fun vx => vx = .bool true, fun vx => vx = .bool true, fun vx => vx = .bool true, fun vx => vx = .bool true, fun vx => vx = .bool true, fun vx => vx = .bool true]) (by kernel_rfl) (back_of (by kernel_rfl)) (dst_of (by kernel_rfl)) (in_ofz (by kernel_rfl) z5) (fun fl w1 hfl hw => SX.start' hw B5 hfl rfl ⟨b_g1_5, b_g2_5, b_g3_5, trivial⟩) ?h19 ?_
  case h19 =>
    intro ix ox ax wx fl ho hS hfi clo hsz hrest hdone hund
    have t3 := (hrest 3 (not_of (by kernel_rfl))).trans s3_5
    have t6 := (hrest 6 (not_of (by kernel_rfl))).trans s6_5
    have t11 := (hrest 11 (not_of (by kernel_rfl))).trans s11_5
    have t13 := (hrest 13 (not_of (by kernel_rfl))).trans s13_5
    have t14 := (hrest 14 (not_of (by kernel_rfl))).trans s14_5
    have hs : ax.tmps.size = 69 := hsz.trans z5
    have hi : ix < 23 := (Array.getElem?_eq_some_iff.1 ho).1
    clear hrest hsz hund
    obtain rfl | rfl | rfl | rfl | rfl | rfl | rfl | rfl | rfl | rfl | rfl | rfl | rfl | rfl | rfl | rfl | rfl | rfl | rfl | rfl | rfl | rfl | rfl : ix = 0 ∨ ix = 1 ∨ ix = 2 ∨ ix = 3 ∨ ix = 4 ∨ ix = 5 ∨ ix = 6 ∨ ix = 7 ∨ ix = 8 ∨ ix = 9 ∨ ix = 10 ∨ ix = 11 ∨ ix = 12 ∨ ix = 13 ∨ ix = 14 ∨ ix = 15 ∨ ix = 16 ∨ ix = 17 ∨ ix = 18 ∨ ix = 19 ∨ ix = 20 ∨ ix = 21 ∨ ix = 22 := by omega
    all_goals obtain rfl := Option.some.inj (show some _ = some ox from ho)
    ·
     exact wpOp_val (v := .bool true) (w' := wx) rfl rfl (by simp [execOp, Act.eval, t11]) ⟨_, rfl, tab_put rfl hs rfl rfl, hS.same 0 rfl⟩
    ·
     have s47 : ax.tmps.getD 47 undef = .bool true := (hdone 0 _ rfl rfl).2 _ rfl
     exact wpOp_val (v := .bool false) (w' := wx) rfl rfl (by simp [execOp, Act.eval, s47, go_sem]) ⟨_, rfl, tab_put rfl hs rfl rfl, hS.same 1 rfl⟩
    ·
     have s48 : ax.tmps.getD 48 undef = .bool false := (hdone 0 _ rfl rfl).2 _ rfl
     exact wpOp_val (v := .bool false) (w' := wx) rfl rfl (by simp [execOp, Act.eval, s48]) ⟨_, rfl, tab_put rfl hs rfl rfl, hS.same 2 rfl⟩
    ·
     have hg : ax.tmps.getD 49 undef = .bool false := (hdone 0 _ rfl rfl).2 _ rfl
     exact wpOp_valw (v := .bool true) (w' := wx) rfl (wanted_yes 2 49 false hg (by rw [hs]; omega) rfl rfl rfl rfl) (by simp [execOp, Act.eval, t14]) ⟨_, rfl, tab_put rfl hs rfl rfl, hS.same 3 rfl⟩
    ·
     have hg : ax.tmps.getD 49 undef = .bool false := (hdone 1 _ rfl rfl).2 _ rfl
     have s50 : ax.tmps.getD 50 undef = .bool true := (hdone 0 _ rfl rfl).2 _ rfl
     exact wpOp_valw (v := .bool true) (w' := wx) rfl (wanted_yes 2 49 false hg (by rw [hs]; omega) rfl rfl rfl rfl) (by simp [execOp, Act.eval, s50]) ⟨_, rfl, tab_put rfl hs rfl rfl, hS.same 4 rfl⟩
    ·
     have hg : ax.tmps.getD 51 undef = .bool true := (hdone 0 _ rfl rfl).2 _ rfl
     have hr := hS.rowNi 2 rfl
     exact wpOp_valw (v := .agg #[.int .u64 ((Rg.giv cc ⟨⟨a, b⟩, ⟨c, d⟩⟩ ⟨⟨p, q⟩, ⟨r, t⟩⟩).u.lo), .int .u64 ((Rg.giv cc ⟨⟨a, b⟩, ⟨c, d⟩⟩ ⟨⟨p, q⟩, ⟨r, t⟩⟩).u.hi), .int .i64 ((Rg.giv cc ⟨⟨a, b⟩, ⟨c, d⟩⟩ ⟨⟨p, q⟩, ⟨r, t⟩⟩).s.lo), .int .i64 ((Rg.giv cc ⟨⟨a, b⟩, ⟨c, d⟩⟩ ⟨⟨p, q⟩, ⟨r, t⟩⟩).s.hi)]) (w' := wx) rfl (wanted_yes 4 51 true hg (by rw [hs]; omega) rfl rfl rfl rfl) (exec_loadR 60 _ rfl g3 0 (show ax.eval (.tmp 13) = .pointer (some ⟨g3, 0, none⟩) from t13) hr [.int .u64 ((Rg.giv cc ⟨⟨a, b⟩, ⟨c, d⟩⟩ ⟨⟨p, q⟩, ⟨r, t⟩⟩).u.lo), .int .u64 ((Rg.giv cc ⟨⟨a, b⟩, ⟨c, d⟩⟩ ⟨⟨p, q⟩, ⟨r, t⟩⟩).u.hi), .int .i64 ((Rg.giv cc ⟨⟨a, b⟩, ⟨c, d⟩⟩ ⟨⟨p, q⟩, ⟨r, t⟩⟩).s.lo), .int .i64 ((Rg.giv cc ⟨⟨a, b⟩, ⟨c, d⟩⟩ ⟨⟨p, q⟩, ⟨r, t⟩⟩).s.hi)] rfl _ Try.underlying60 rfl (by kernel_rfl)) ⟨_, rfl, tab_put rfl hs rfl rfl, hS.same 5 rfl⟩
    ·
     have hg : ax.tmps.getD 51 undef = .bool true := (hdone 0 _ rfl rfl).2 _ rfl
     exact wpOp_valw (v := .int .u64 v) (w' := wx) rfl (wanted_yes 4 51 true hg (by rw [hs]; omega) rfl rfl rfl rfl) (by simp [execOp, Act.eval, t3]) ⟨_, rfl, tab_put rfl hs rfl rfl, hS.same 6 rfl⟩
    ·
     have hg : ax.tmps.getD 51 undef = .bool true := (hdone 2 _ rfl rfl).2 _ rfl
     have s52 : ax.tmps.getD 52 undef = .agg #[.int .u64 ((Rg.giv cc ⟨⟨a, b⟩, ⟨c, d⟩⟩ ⟨⟨p, q⟩, ⟨r, t⟩⟩).u.lo), .int .u64 ((Rg.giv cc ⟨⟨a, b⟩, ⟨c, d⟩⟩ ⟨⟨p, q⟩, ⟨r, t⟩⟩).u.hi), .int .i64 ((Rg.giv cc ⟨⟨a, b⟩, ⟨c, d⟩⟩ ⟨⟨p, q⟩, ⟨r, t⟩⟩).s.lo), .int .i64 ((Rg.giv cc ⟨⟨a, b⟩, ⟨c, d⟩⟩ ⟨⟨p, q⟩, ⟨r, t⟩⟩).s.hi)] := (hdone 0 _ rfl rfl).2 _ rfl
     have s53 : ax.tmps.getD 53 undef = .int .u64 v := (hdone 1 _ rfl rfl).2 _ rfl
     refine wpOp_callw (args := #[.agg #[.int .u64 ((Rg.giv cc ⟨⟨a, b⟩, ⟨c, d⟩⟩ ⟨⟨p, q⟩, ⟨r, t⟩⟩).u.lo), .int .u64 ((Rg.giv cc ⟨⟨a, b⟩, ⟨c, d⟩⟩ ⟨⟨p, q⟩, ⟨r, t⟩⟩).u.hi), .int .i64 ((Rg.giv cc ⟨⟨a, b⟩, ⟨c, d⟩⟩ ⟨⟨p, q⟩, ⟨r, t⟩⟩).s.lo), .int .i64 ((Rg.giv cc ⟨⟨a, b⟩, ⟨c, d⟩⟩ ⟨⟨p, q⟩, ⟨r, t⟩⟩).s.hi)], .int .u64 v]) rfl (wanted_yes 4 51 true hg (by rw [hs]; omega) rfl rfl rfl rfl) (exec_call rfl rfl rfl (args2 (show ax.eval (.tmp 52) = .agg #[.int .u64 ((Rg.giv cc ⟨⟨a, b⟩, ⟨c, d⟩⟩ ⟨⟨p, q⟩, ⟨r, t⟩⟩).u.lo), .int .u64 ((Rg.giv cc ⟨⟨a, b⟩, ⟨c, d⟩⟩ ⟨⟨p, q⟩, ⟨r, t⟩⟩).u.hi), .int .i64 ((Rg.giv cc ⟨⟨a, b⟩, ⟨c, d⟩⟩ ⟨⟨p, q⟩, ⟨r, t⟩⟩).s.lo), .int .i64 ((Rg.giv cc ⟨⟨a, b⟩, ⟨c, d⟩⟩ ⟨⟨p, q⟩, ⟨r, t⟩⟩).s.hi)] from s52) (show ax.eval (.tmp 53) = .int .u64 v from s53)) Try.func36 (by decide +kernel) rfl) ?_
     · refine (has_n ((Rg.giv cc ⟨⟨a, b⟩, ⟨c, d⟩⟩ ⟨⟨p, q⟩, ⟨r, t⟩⟩).u.lo) ((Rg.giv cc ⟨⟨a, b⟩, ⟨c, d⟩⟩ ⟨⟨p, q⟩, ⟨r, t⟩⟩).u.hi) ((Rg.giv cc ⟨⟨a, b⟩, ⟨c, d⟩⟩ ⟨⟨p, q⟩, ⟨r, t⟩⟩).s.lo) ((Rg.giv cc ⟨⟨a, b⟩, ⟨c, d⟩⟩ ⟨⟨p, q⟩, ⟨r, t⟩⟩).s.hi) v wx).mono ?_
       rintro e w' ⟨rfl, b9⟩
       exact ⟨_, rfl, _, rfl, tab_put rfl hs rfl (congrArg Value.bool (K1.out Ffk1.out Ffk2.out Ffk3.out).2), hS.quiet 7 rfl b9⟩
    ·
     have hg : ax.tmps.getD 49 undef = .bool false := (hdone 2 _ rfl rfl).2 _ rfl
     have s51 : ax.tmps.getD 51 undef = .bool true := (hdone 0 _ rfl rfl).2 _ rfl
     have s54 : ax.tmps.getD 54 undef = .bool true := (hdone 1 _ rfl rfl).2 _ rfl
     exact wpOp_valw (v := .bool true) (w' := wx) rfl (wanted_yes 2 49 false hg (by rw [hs]; omega) rfl rfl rfl rfl) (by simp [execOp, Act.eval, s51, s54, go_sem]) ⟨_, rfl, tab_put rfl hs rfl rfl, hS.same 8 rfl⟩
    ·
     have s49 : ax.tmps.getD 49 undef = .bool false := (hdone 0 _ rfl rfl).2 _ rfl
     have s55 : ax.tmps.getD 55 undef = .bool true := (hdone 1 _ rfl rfl).2 _ rfl
     exact wpOp_val (v := .bool true) (w' := wx) rfl rfl (by simp [execOp, Act.eval, s49, s55, go_sem]) ⟨_, rfl, tab_put rfl hs rfl rfl, hS.same 9 rfl⟩
    ·
     have s56 : ax.tmps.getD 56 undef = .bool true := (hdone 0 _ rfl rfl).2 _ rfl
     exact wpOp_val (v := .bool true) (w' := wx) rfl rfl (by simp [execOp, Act.eval, s56]) ⟨_, rfl, tab_put rfl hs rfl rfl, hS.same 10 rfl⟩
    ·
     have hg : ax.tmps.getD 57 undef = .bool true := (hdone 0 _ rfl rfl).2 _ rfl
     exact wpOp_valw (v := .bool true) (w' := wx) rfl (wanted_yes 10 57 true hg (by rw [hs]; omega) rfl rfl rfl rfl) (by simp [execOp, Act.eval, t14]) ⟨_, rfl, tab_put rfl hs rfl rfl, hS.same 11 rfl⟩
    ·
     have hg : ax.tmps.getD 57 undef = .bool true := (hdone 1 _ rfl rfl).2 _ rfl
     have s58 : ax.tmps.getD 58 undef = .bool true := (hdone 0 _ rfl rfl).2 _ rfl
     exact wpOp_valw (v := .bool false) (w' := wx) rfl (wanted_yes 10 57 true hg (by rw [hs]; omega) rfl rfl rfl rfl) (by simp [execOp, Act.eval, s58, go_sem]) ⟨_, rfl, tab_put rfl hs rfl rfl, hS.same 12 rfl⟩
    ·
     have hg : ax.tmps.getD 57 undef = .bool true := (hdone 1 _ rfl rfl).2 _ rfl
     have s59 : ax.tmps.getD 59 undef = .bool false := (hdone 0 _ rfl rfl).2 _ rfl
     exact wpOp_valw (v := .bool false) (w' := wx) rfl (wanted_yes 10 57 true hg (by rw [hs]; omega) rfl rfl rfl rfl) (by simp [execOp, Act.eval, s59]) ⟨_, rfl, tab_put rfl hs rfl rfl, hS.same 13 rfl⟩
    ·
     have hg : ax.tmps.getD 60 undef = .bool false := (hdone 0 _ rfl rfl).2 _ rfl
     have hr := hS.rowNi 2 rfl
     exact wpOp_valw (v := .agg #[.int .u64 ((Rg.giv cc ⟨⟨a, b⟩, ⟨c, d⟩⟩ ⟨⟨p, q⟩, ⟨r, t⟩⟩).u.lo), .int .u64 ((Rg.giv cc ⟨⟨a, b⟩, ⟨c, d⟩⟩ ⟨⟨p, q⟩, ⟨r, t⟩⟩).u.hi), .int .i64 ((Rg.giv cc ⟨⟨a, b⟩, ⟨c, d⟩⟩ ⟨⟨p, q⟩, ⟨r, t⟩⟩).s.lo), .int .i64 ((Rg.giv cc ⟨⟨a, b⟩, ⟨c, d⟩⟩ ⟨⟨p, q⟩, ⟨r, t⟩⟩).s.hi)]) (w' := wx) rfl (wanted_yes 13 60 false hg (by rw [hs]; omega) rfl rfl rfl rfl) (exec_loadR 60 _ rfl g3 0 (show ax.eval (.tmp 13) = .pointer (some ⟨g3, 0, none⟩) from t13) hr [.int .u64 ((Rg.giv cc ⟨⟨a, b⟩, ⟨c, d⟩⟩ ⟨⟨p, q⟩, ⟨r, t⟩⟩).u.lo), .int .u64 ((Rg.giv cc ⟨⟨a, b⟩, ⟨c, d⟩⟩ ⟨⟨p, q⟩, ⟨r, t⟩⟩).u.hi), .int .i64 ((Rg.giv cc ⟨⟨a, b⟩, ⟨c, d⟩⟩ ⟨⟨p, q⟩, ⟨r, t⟩⟩).s.lo), .int .i64 ((Rg.giv cc ⟨⟨a, b⟩, ⟨c, d⟩⟩ ⟨⟨p, q⟩, ⟨r, t⟩⟩).s.hi)] rfl _ Try.underlying60 rfl (by kernel_rfl)) ⟨_, rfl, tab_put rfl hs rfl rfl, hS.same 14 rfl⟩
    ·
     have hg : ax.tmps.getD 60 undef = .bool false := (hdone 0 _ rfl rfl).2 _ rfl
     have hr := hS.rowNi 0 rfl
     exact wpOp_valw (v := .agg #[.int .u64 a, .int .u64 b, .int .i64 c, .int .i64 d]) (w' := wx) rfl (wanted_yes 13 60 false hg (by rw [hs]; omega) rfl rfl rfl rfl) (exec_loadR 60 _ rfl g1 0 (show ax.eval (.tmp 6) = .pointer (some ⟨g1, 0, none⟩) from t6) hr [.int .u64 a, .int .u64 b, .int .i64 c, .int .i64 d] rfl _ Try.underlying60 rfl (by kernel_rfl)) ⟨_, rfl, tab_put rfl hs rfl rfl, hS.same 15 rfl⟩
    ·
     have hg : ax.tmps.getD 60 undef = .bool false := (hdone 2 _ rfl rfl).2 _ rfl
     have s61 : ax.tmps.getD 61 undef = .agg #[.int .u64 ((Rg.giv cc ⟨⟨a, b⟩, ⟨c, d⟩⟩ ⟨⟨p, q⟩, ⟨r, t⟩⟩).u.lo), .int .u64 ((Rg.giv cc ⟨⟨a, b⟩, ⟨c, d⟩⟩ ⟨⟨p, q⟩, ⟨r, t⟩⟩).u.hi), .int .i64 ((Rg.giv cc ⟨⟨a, b⟩, ⟨c, d⟩⟩ ⟨⟨p, q⟩, ⟨r, t⟩⟩).s.lo), .int .i64 ((Rg.giv cc ⟨⟨a, b⟩, ⟨c, d⟩⟩ ⟨⟨p, q⟩, ⟨r, t⟩⟩).s.hi)] := (hdone 0 _ rfl rfl).2 _ rfl
     have s62 : ax.tmps.getD 62 undef = .agg #[.int .u64 a, .int .u64 b, .int .i64 c, .int .i64 d] := (hdone 1 _ rfl rfl).2 _ rfl
     refine wpOp_callw (args := #[.agg #[.int .u64 ((Rg.giv cc ⟨⟨a, b⟩, ⟨c, d⟩⟩ ⟨⟨p, q⟩, ⟨r, t⟩⟩).u.lo), .int .u64 ((Rg.giv cc ⟨⟨a, b⟩, ⟨c, d⟩⟩ ⟨⟨p, q⟩, ⟨r, t⟩⟩).u.hi), .int .i64 ((Rg.giv cc ⟨⟨a, b⟩, ⟨c, d⟩⟩ ⟨⟨p, q⟩, ⟨r, t⟩⟩).s.lo), .int .i64 ((Rg.giv cc ⟨⟨a, b⟩, ⟨c, d⟩⟩ ⟨⟨p, q⟩, ⟨r, t⟩⟩).s.hi)], .agg #[.int .u64 a, .int .u64 b, .int .i64 c, .int .i64 d]]) rfl (wanted_yes 13 60 false hg (by rw [hs]; omega) rfl rfl rfl rfl) (exec_call rfl rfl rfl (args2 (show ax.eval (.tmp 61) = .agg #[.int .u64 ((Rg.giv cc ⟨⟨a, b⟩, ⟨c, d⟩⟩ ⟨⟨p, q⟩, ⟨r, t⟩⟩).u.lo), .int .u64 ((Rg.giv cc ⟨⟨a, b⟩, ⟨c, d⟩⟩ ⟨⟨p, q⟩, ⟨r, t⟩⟩).u.hi), .int .i64 ((Rg.giv cc ⟨⟨a, b⟩, ⟨c, d⟩⟩ ⟨⟨p, q⟩, ⟨r, t⟩⟩).s.lo), .int .i64 ((Rg.giv cc ⟨⟨a, b⟩, ⟨c, d⟩⟩ ⟨⟨p, q⟩, ⟨r, t⟩⟩).s.hi)] from s61) (show ax.eval (.tmp 62) = .agg #[.int .u64 a, .int .u64 b, .int .i64 c, .int .i64 d] from s62)) Try.func40 (by decide +kernel) rfl) ?_
     · refine (in_n ((Rg.giv cc ⟨⟨a, b⟩, ⟨c, d⟩⟩ ⟨⟨p, q⟩, ⟨r, t⟩⟩).u.lo) ((Rg.giv cc ⟨⟨a, b⟩, ⟨c, d⟩⟩ ⟨⟨p, q⟩, ⟨r, t⟩⟩).u.hi) ((Rg.giv cc ⟨⟨a, b⟩, ⟨c, d⟩⟩ ⟨⟨p, q⟩, ⟨r, t⟩⟩).s.lo) ((Rg.giv cc ⟨⟨a, b⟩, ⟨c, d⟩⟩ ⟨⟨p, q⟩, ⟨r, t⟩⟩).s.hi) a b c d wx).mono ?_
       rintro e w' ⟨rfl, b9⟩
       exact ⟨_, rfl, _, rfl, tab_put rfl hs rfl (congrArg Value.bool (giv_in_a ((K1.out Ffk1.out Ffk2.out Ffk3.out).1))), hS.quiet 16 rfl b9⟩
    ·
     have hg : ax.tmps.getD 57 undef = .bool true := (hdone 2 _ rfl rfl).2 _ rfl
     have s60 : ax.tmps.getD 60 undef = .bool false := (hdone 0 _ rfl rfl).2 _ rfl
     have s63 : ax.tmps.getD 63 undef = .bool true := (hdone 1 _ rfl rfl).2 _ rfl
     exact wpOp_valw (v := .bool true) (w' := wx) rfl (wanted_yes 10 57 true hg (by rw [hs]; omega) rfl rfl rfl rfl) (by simp [execOp, Act.eval, s60, s63, go_sem]) ⟨_, rfl, tab_put rfl hs rfl rfl, hS.same 17 rfl⟩
    ·
     have s57 : ax.tmps.getD 57 undef = .bool true := (hdone 0 _ rfl rfl).2 _ rfl
     have s64 : ax.tmps.getD 64 undef = .bool true := (hdone 1 _ rfl rfl).2 _ rfl
     exact wpOp_val (v := .bool true) (w' := wx) rfl rfl (by simp [execOp, Act.eval, s57, s64, go_sem]) ⟨_, rfl, tab_put rfl hs rfl rfl, hS.same 18 rfl⟩
    ·
     have s65 : ax.tmps.getD 65 undef = .bool true := (hdone 0 _ rfl rfl).2 _ rfl
     exact wpOp_val (v := .bool true) (w' := wx) rfl rfl (by simp [execOp, Act.eval, s65]) ⟨_, rfl, tab_put rfl hs rfl rfl, hS.same 19 rfl⟩
    ·
     have hg : ax.tmps.getD 66 undef = .bool true := (hdone 0 _ rfl rfl).2 _ rfl
     refine wpOp_callw (args := #[]) rfl (wanted_yes 19 66 true hg (by rw [hs]; omega) rfl rfl rfl rfl) (exec_call rfl rfl rfl (args0 ) Try.func46 (by decide +kernel) rfl) ?_
     · refine (wakes_n wx).mono ?_
       rintro e w' ⟨rfl, b9⟩
       exact ⟨_, rfl, _, rfl, tab_put rfl hs rfl rfl, hS.quiet 20 rfl b9⟩
    ·
     have s66 : ax.tmps.getD 66 undef = .bool true := (hdone 0 _ rfl rfl).2 _ rfl
     have s67 : ax.tmps.getD 67 undef = .bool true := (hdone 1 _ rfl rfl).2 _ rfl
     exact wpOp_val (v := .bool true) (w' := wx) rfl rfl (by simp [execOp, Act.eval, s66, s67, go_sem]) ⟨_, rfl, tab_put rfl hs rfl rfl, hS.same 21 rfl⟩
    ·
     have s68 : ax.tmps.getD 68 undef = .bool true := (hdone 0 _ rfl rfl).2 _ rfl
     exact wpOp_val (v := .bool true) (w' := wx) rfl rfl (by simp [execOp, Act.eval, s68]) ⟨_, rfl, tab_put rfl hs rfl rfl, hS.same 22 rfl⟩
  intro a6 w6 fl d6 z6 rest6 R6 hfl hS
  obtain ⟨B6, n6, hBs, hAs, hPs⟩ := hS.finish hfl rfl
  replace d6 := d6.trans d5
  replace z6 := z6.trans z5
  obtain ⟨⟨-, b_g1_6⟩, ⟨-, b_g2_6⟩, ⟨-, b_g3_6⟩, -⟩ := hBs
  have s10_6 : a6.tmps.getD 10 undef = .bool true := R6 22 _ rfl
  clear R6 rest6 hS hfl hPs hAs
  clear s3_5 s6_5 s10_5 s11_5 s13_5 s14_5 s41_5 b_g1_5 b_g2_5 b_g3_5 d5 z5
  refine wp_ret ?_
  try simp only [Exit.inBlock, Exit.then]
  refine bodyPost_ret (res_t (fn := Try.f9) rfl s10_6) d6 ?_
  exact ⟨rfl, B6⟩

theorem given_walk (cc : Int) (x y : Rg) (v u : Int) (W : World) (hc : (Lit.int .i8 cc).wf = true) (hx : x.Ok) (hy : y.Ok) (hv : (Lit.int .u64 v).wf = true) (hu : (Lit.int .u64 u).wf = true) : Calls Try.prog 9 #[.int .i8 cc, x.val, y.val, .int .u64 v, .int .u64 u] W fun e w' => e = .returned (.bool true) ∧ Below W.heap.size W w' :=
  given_law cc x.u.lo x.u.hi x.s.lo x.s.hi y.u.lo y.u.hi y.s.lo y.s.hi v u W hx hy (wf_u64 hv).1 (wf_u64 hv).2 (wf_u64 hu).1 (wf_u64 hu).2
end Go.Proofs.Ytfededcmelhjjaa.Bnd
