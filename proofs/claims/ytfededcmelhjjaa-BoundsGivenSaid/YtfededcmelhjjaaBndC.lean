/-
  Package bounds: ranges, as contracts. (Written by gen_bndc.py.)
-/
import Derived.Test.YtfededcmelhjjaaBndB
import Derived.Test.YtfededcmelhjjaaSx
import Derived.Test.YtfededcmelhjjaaOrdT
namespace Go.Proofs.Ytfededcmelhjjaa.Bnd
open Go.RowKit
set_option linter.unusedVariables false
set_option linter.unusedSimpArgs false
set_option linter.unnecessarySimpa false

set_option maxRecDepth 100000

theorem may_n (a b c d : Int) (W : World) : Calls Try.prog 30 #[.agg #[.int .u64 a, .int .u64 b, .int .i64 c, .int .i64 d]] W fun e w' => e = .returned (.bool (Rg.mayB ⟨⟨a, b⟩, ⟨c, d⟩⟩)) ∧ Below W.heap.size W w' := by
  go_enter Try.func30, Try.ntmps30
  go_wp2
  all_goals go_returns
  all_goals refine ⟨(by first | exact retB rfl | exact retB (by rename_i h; show false = (decide (a ≤ b) && decide (c ≤ d)); rw [decide_eq_false (by omega)]; rfl) | exact retB (by rename_i h; show _ = (decide (a ≤ b) && decide (c ≤ d)); rw [decide_eq_true (show a ≤ b by omega)]; rfl)), ?_⟩
  all_goals (repeat' (first | exact Below.refl _ _ | assumption | apply below_new | (refine below_call ?_ (by assumption))))

theorem all_n  (W : World) : Calls Try.prog 32 #[] W fun e w' => e = .returned (.agg #[.int .u64 (allR).u.lo, .int .u64 (allR).u.hi, .int .i64 (allR).s.lo, .int .i64 (allR).s.hi]) ∧ Below W.heap.size W w' := by
  go_enter Try.func32, Try.ntmps32
  go_wp2
  all_goals go_returns
  all_goals refine ⟨rfl, ?_⟩
  all_goals (repeat' (first | exact Below.refl _ _ | assumption | apply below_new | (refine below_call ?_ (by assumption))))

theorem one_n (v : Int) (W : World) : Calls Try.prog 34 #[.int .u64 v] W fun e w' => e = .returned (.agg #[.int .u64 (oneR v).u.lo, .int .u64 (oneR v).u.hi, .int .i64 (oneR v).s.lo, .int .i64 (oneR v).s.hi]) ∧ Below W.heap.size W w' := by
  go_enter Try.func34, Try.ntmps34
  go_wp2
  all_goals go_returns
  all_goals refine ⟨retR rfl rfl (by rw [wrap64]; rfl) (by rw [wrap64]; rfl), ?_⟩
  all_goals (repeat' (first | exact Below.refl _ _ | assumption | apply below_new | (refine below_call ?_ (by assumption))))

set_option maxHeartbeats 4000000 in
theorem narrow_n (a b c d : Int) (W : World) (ok : Rg.Ok ⟨⟨a, b⟩, ⟨c, d⟩⟩) : Calls Try.prog 28 #[.agg #[.int .u64 a, .int .u64 b, .int .i64 c, .int .i64 d]] W fun e w' => e = .returned (.tuple #[.agg #[.int .u64 (Rg.nar ⟨⟨a, b⟩, ⟨c, d⟩⟩).u.lo, .int .u64 (Rg.nar ⟨⟨a, b⟩, ⟨c, d⟩⟩).u.hi, .int .i64 (Rg.nar ⟨⟨a, b⟩, ⟨c, d⟩⟩).s.lo, .int .i64 (Rg.nar ⟨⟨a, b⟩, ⟨c, d⟩⟩).s.hi], .bool (Rg.narB ⟨⟨a, b⟩, ⟨c, d⟩⟩)]) ∧ Below W.heap.size W w' := by
  have HO := Lib.hid ok
  obtain ⟨x1, e1⟩ : ∃ x, sameU ⟨c, d⟩ ⟨a, b⟩ = x := ⟨_, rfl⟩
  obtain ⟨s1, e2⟩ : ∃ x, Pr.meet ⟨c, d⟩ x1 = x := ⟨_, rfl⟩
  obtain ⟨x2, e3⟩ : ∃ x, sameS ⟨a, b⟩ s1 = x := ⟨_, rfl⟩
  obtain ⟨u1, e4⟩ : ∃ x, Pr.meet ⟨a, b⟩ x2 = x := ⟨_, rfl⟩
  obtain ⟨x3, e5⟩ : ∃ x, sameU s1 u1 = x := ⟨_, rfl⟩
  obtain ⟨s2, e6⟩ : ∃ x, Pr.meet s1 x3 = x := ⟨_, rfl⟩
  have o1 : (Rg.nS ⟨⟨a, b⟩, ⟨c, d⟩⟩).Ok := ok_nS ok
  have o2 : (Rg.nS ⟨⟨a, b⟩, ⟨c, d⟩⟩).nU.Ok := ok_nU o1
  have n3 : Rg.nar3 ⟨⟨a, b⟩, ⟨c, d⟩⟩ = ⟨u1, s2⟩ := by rw [← e6, ← e5, ← e4, ← e3, ← e2, ← e1]; rfl
  have p1 : Pr.S s1 := by rw [← e2, ← e1]; exact o1.2
  have p2 : Pr.U u1 := by rw [← e4, ← e3, ← e2, ← e1]; exact o2.1
  have HO1 := Lib.hid p1
  have HO2 := Lib.hid p2
  have E1 := Lib.hid e1
  have E2 := Lib.hid e2
  have E3 := Lib.hid e3
  have E4 := Lib.hid e4
  have E5 := Lib.hid e5
  have E6 := Lib.hid e6
  have m0 : Rg.narB ⟨⟨a, b⟩, ⟨c, d⟩⟩ = Rg.mayB ⟨u1, s2⟩ := by unfold Rg.narB; rw [n3]
  have HE0 : Hid (Rg.mayB ⟨u1, s2⟩ = false → Ending.returned (.tuple #[.agg #[.int .u64 (allR).u.lo, .int .u64 (allR).u.hi, .int .i64 (allR).s.lo, .int .i64 (allR).s.hi], .bool false]) = .returned (.tuple #[.agg #[.int .u64 (Rg.nar ⟨⟨a, b⟩, ⟨c, d⟩⟩).u.lo, .int .u64 (Rg.nar ⟨⟨a, b⟩, ⟨c, d⟩⟩).u.hi, .int .i64 (Rg.nar ⟨⟨a, b⟩, ⟨c, d⟩⟩).s.lo, .int .i64 (Rg.nar ⟨⟨a, b⟩, ⟨c, d⟩⟩).s.hi], .bool (Rg.narB ⟨⟨a, b⟩, ⟨c, d⟩⟩)])) := Lib.hid (fun m => by rw [← m0] at m; unfold Rg.nar; rw [m]; rfl)
  have HE1 : Hid (Rg.mayB ⟨u1, s2⟩ = true → Ending.returned (.tuple #[.agg #[.int .u64 ((⟨u1, s2⟩ : Rg)).u.lo, .int .u64 ((⟨u1, s2⟩ : Rg)).u.hi, .int .i64 ((⟨u1, s2⟩ : Rg)).s.lo, .int .i64 ((⟨u1, s2⟩ : Rg)).s.hi], .bool true]) = .returned (.tuple #[.agg #[.int .u64 (Rg.nar ⟨⟨a, b⟩, ⟨c, d⟩⟩).u.lo, .int .u64 (Rg.nar ⟨⟨a, b⟩, ⟨c, d⟩⟩).u.hi, .int .i64 (Rg.nar ⟨⟨a, b⟩, ⟨c, d⟩⟩).s.lo, .int .i64 (Rg.nar ⟨⟨a, b⟩, ⟨c, d⟩⟩).s.hi], .bool (Rg.narB ⟨⟨a, b⟩, ⟨c, d⟩⟩)])) := Lib.hid (fun m => by rw [← m0] at m; unfold Rg.nar; rw [m, n3]; rfl)
  clear ok e1 e2 e3 e4 e5 e6 o1 o2 p1 p2 m0 n3
  refine calls_abs Try.func28 rfl (Nat.le_of_ble_eq_true rfl) ?_
  intro a0 d0 z0 h0
  have z0 : a0.tmps.size = 33 := z0
  have s0_0 : a0.tmps.getD 0 undef = .agg #[.int .u64 a, .int .u64 b, .int .i64 c, .int .i64 d] := h0 0 (Nat.le_of_ble_eq_true rfl)
  clear h0
  have B0 : Below W.heap.size W W := Below.refl _ _
  refine wp_seq ?_
  refine wp_regx (SX W W.heap.size [] [⟨0, 1, 60, (cR a b c d), none, #[]⟩, ⟨1, 2, 60, (cR 0 0 0 0), none, #[]⟩]) (TabX [fun _ => True, fun _ => True, fun vx => vx = .bool false]) (by kernel_rfl) (back_of (by kernel_rfl)) (dst_of (by kernel_rfl)) (in_ofz (by kernel_rfl) z0) (fun fl w1 hfl hw => SX.start' hw B0 hfl rfl trivial) ?h1 ?_
  case h1 =>
    intro ix ox ax wx fl ho hS hfi clo hsz hrest hdone hund
    have t0 := (hrest 0 (not_of (by kernel_rfl))).trans s0_0
    have hs : ax.tmps.size = 33 := hsz.trans z0
    have hi : ix < 3 := (Array.getElem?_eq_some_iff.1 ho).1
    clear hrest hsz hund
    obtain rfl | rfl | rfl : ix = 0 ∨ ix = 1 ∨ ix = 2 := by omega
    all_goals obtain rfl := Option.some.inj (show some _ = some ox from ho)
    ·
     refine wpOp_val (v := .pointer (some ⟨wx.heap.size, 0, none⟩)) (w' := wx.alloc (.cells #[.int .u64 a, .int .u64 b, .int .i64 c, .int .i64 d] 60)) rfl rfl ?_ ⟨_, rfl, trivial, hS.alloc 0 1 60 #[.int .u64 a, .int .u64 b, .int .i64 c, .int .i64 d] [] [⟨1, 2, 60, (cR 0 0 0 0), none, #[]⟩] (none) #[] rfl rfl rfl (by rw [hs]; omega) trivial⟩
     · simp [execOp, Act.eval, t0, go_sem]
    ·
     refine wpOp_val (v := .pointer (some ⟨wx.heap.size, 0, none⟩)) (w' := wx.alloc (.cells #[.int .u64 0, .int .u64 0, .int .i64 0, .int .i64 0] 60)) rfl rfl ?_ ⟨_, rfl, trivial, hS.alloc 1 2 60 #[.int .u64 0, .int .u64 0, .int .i64 0, .int .i64 0] [⟨0, 1, 60, (cR a b c d), none, #[]⟩] [] (none) #[] rfl rfl rfl (by rw [hs]; omega) trivial⟩
     · simp [execOp, Act.eval, go_sem]
    ·
     exact wpOp_val (v := .bool false) (w' := wx) rfl rfl (by simp [execOp, Act.eval]) ⟨_, rfl, tab_put rfl hs rfl rfl, hS.same 2 rfl⟩
  intro a1 w1 fl d1 z1 rest1 R1 hfl hS
  obtain ⟨B1, n1, hBs, hAs, hPs⟩ := hS.finish hfl rfl
  replace d1 := d1.trans d0
  replace z1 := z1.trans z0
  obtain ⟨⟨g1, u_g1, q_g1, b_g1_1⟩, ⟨g2, u_g2, q_g2, b_g2_1⟩, -⟩ := hAs
  replace u_g1 : a1.tmps.getD 1 undef = .pointer (some ⟨g1, 0, none⟩) := u_g1
  have m_g1 : W.heap.size ≤ g1 := q_g1
  replace q_g1 : W.heap.size ≤ g1 := Nat.le_trans B0.size q_g1
  replace u_g2 : a1.tmps.getD 2 undef = .pointer (some ⟨g2, 0, none⟩) := u_g2
  have m_g2 : W.heap.size ≤ g2 := q_g2
  replace q_g2 : W.heap.size ≤ g2 := Nat.le_trans B0.size q_g2
  simp only [List.pairwise_cons, List.mem_cons, List.not_mem_nil, or_false, forall_eq_or_imp, forall_eq] at hPs
  have ne_g1_g2 : g1 ≠ g2 := by
    have hn : slotOf a1 1 ≠ slotOf a1 2 := hPs.1
    intro e; subst e; exact hn (Eq.trans u_g1 u_g2.symm)
  have s3_1 : a1.tmps.getD 3 undef = .bool false := R1 2 _ rfl
  clear R1 rest1 hS hfl hPs hBs
  clear s0_0 d0 z0
  refine wp_seq ?_
  refine wp_regx (SX W w1.heap.size [⟨g1, 60, (cR a b c d), none, #[]⟩, ⟨g2, 60, (cR 0 0 0 0), none, #[]⟩] [⟨4, 4, 95, (cU 0 0), some 6, (cU a b)⟩, ⟨5, 5, 99, (cS 0 0), some 7, (cS c d)⟩]) (TabX [fun vx => vx = .agg #[.int .u64 a, .int .u64 b, .int .i64 c, .int .i64 d], fun vx => vx = .agg #[.int .u64 a, .int .u64 b], fun vx => vx = .agg #[.int .u64 a, .int .u64 b, .int .i64 c, .int .i64 d], fun vx => vx = .agg #[.int .i64 c, .int .i64 d], fun _ => True, fun _ => True, fun _ => True, fun _ => True]) (by kernel_rfl) (back_of (by kernel_rfl)) (dst_of (by kernel_rfl)) (in_ofz (by kernel_rfl) z1) (fun fl w1 hfl hw => SX.start' hw B1 hfl rfl ⟨b_g1_1, b_g2_1, trivial⟩) ?h2 ?_
  case h2 =>
    intro ix ox ax wx fl ho hS hfi clo hsz hrest hdone hund
    have t1 := (hrest 1 (not_of (by kernel_rfl))).trans u_g1
    have hs : ax.tmps.size = 33 := hsz.trans z1
    have hi : ix < 8 := (Array.getElem?_eq_some_iff.1 ho).1
    clear hrest hsz hund
    obtain rfl | rfl | rfl | rfl | rfl | rfl | rfl | rfl : ix = 0 ∨ ix = 1 ∨ ix = 2 ∨ ix = 3 ∨ ix = 4 ∨ ix = 5 ∨ ix = 6 ∨ ix = 7 := by omega
    all_goals obtain rfl := Option.some.inj (show some _ = some ox from ho)
    ·
     have hr := hS.rowNi 0 rfl
     exact wpOp_val (v := .agg #[.int .u64 a, .int .u64 b, .int .i64 c, .int .i64 d]) (w' := wx) rfl rfl (exec_loadR 60 _ rfl g1 0 (show ax.eval (.tmp 1) = .pointer (some ⟨g1, 0, none⟩) from t1) hr [.int .u64 a, .int .u64 b, .int .i64 c, .int .i64 d] rfl _ Try.underlying60 rfl (by kernel_rfl)) ⟨_, rfl, tab_put rfl hs rfl rfl, hS.same 0 rfl⟩
    ·
     have s6 : ax.tmps.getD 6 undef = .agg #[.int .u64 a, .int .u64 b, .int .i64 c, .int .i64 d] := (hdone 0 _ rfl rfl).2 _ rfl
     refine wpOp_call (args := #[.agg #[.int .u64 a, .int .u64 b, .int .i64 c, .int .i64 d]]) rfl rfl (exec_call rfl rfl rfl (args1 (show ax.eval (.tmp 6) = .agg #[.int .u64 a, .int .u64 b, .int .i64 c, .int .i64 d] from s6)) Try.func61 (by decide +kernel) rfl) ?_
     · refine (unsigned_n a b c d wx).mono ?_
       rintro e w' ⟨rfl, b9⟩
       exact ⟨_, rfl, _, rfl, tab_put rfl hs rfl rfl, hS.quiet 1 rfl b9⟩
    ·
     have hr := hS.rowNi 0 rfl
     exact wpOp_val (v := .agg #[.int .u64 a, .int .u64 b, .int .i64 c, .int .i64 d]) (w' := wx) rfl rfl (exec_loadR 60 _ rfl g1 0 (show ax.eval (.tmp 1) = .pointer (some ⟨g1, 0, none⟩) from t1) hr [.int .u64 a, .int .u64 b, .int .i64 c, .int .i64 d] rfl _ Try.underlying60 rfl (by kernel_rfl)) ⟨_, rfl, tab_put rfl hs rfl rfl, hS.same 2 rfl⟩
    ·
     have s8 : ax.tmps.getD 8 undef = .agg #[.int .u64 a, .int .u64 b, .int .i64 c, .int .i64 d] := (hdone 0 _ rfl rfl).2 _ rfl
     refine wpOp_call (args := #[.agg #[.int .u64 a, .int .u64 b, .int .i64 c, .int .i64 d]]) rfl rfl (exec_call rfl rfl rfl (args1 (show ax.eval (.tmp 8) = .agg #[.int .u64 a, .int .u64 b, .int .i64 c, .int .i64 d] from s8)) Try.func63 (by decide +kernel) rfl) ?_
     · refine (signed_n a b c d wx).mono ?_
       rintro e w' ⟨rfl, b9⟩
       exact ⟨_, rfl, _, rfl, tab_put rfl hs rfl rfl, hS.quiet 3 rfl b9⟩
    ·
     refine wpOp_val (v := .pointer (some ⟨wx.heap.size, 0, none⟩)) (w' := wx.alloc (.cells #[.int .u64 0, .int .u64 0] 95)) rfl rfl ?_ ⟨_, rfl, trivial, hS.alloc 4 4 95 #[.int .u64 0, .int .u64 0] [] [⟨5, 5, 99, (cS 0 0), some 7, (cS c d)⟩] (some 6) #[.int .u64 a, .int .u64 b] rfl rfl rfl (by rw [hs]; omega) (not_yet clo hfi (by kernel_rfl))⟩
     · simp [execOp, Act.eval, go_sem]
    ·
     refine wpOp_val (v := .pointer (some ⟨wx.heap.size, 0, none⟩)) (w' := wx.alloc (.cells #[.int .i64 0, .int .i64 0] 99)) rfl rfl ?_ ⟨_, rfl, trivial, hS.alloc 5 5 99 #[.int .i64 0, .int .i64 0] [⟨4, 4, 95, (cU 0 0), some 6, (cU a b)⟩] [] (some 7) #[.int .i64 c, .int .i64 d] rfl rfl rfl (by rw [hs]; omega) (not_yet clo hfi (by kernel_rfl))⟩
     · simp [execOp, Act.eval, go_sem]
    ·
     have hd4 := (hdone 0 _ rfl rfl).1
     obtain ⟨g3, s4, n4, r4⟩ := SX.rowA hS [] [⟨5, 5, 99, (cS 0 0), some 7, (cS c d)⟩] 4 4 95 _ _ 6 rfl hd4 hfi
     have s4 : ax.tmps.getD 4 undef = .pointer (some ⟨g3, 0, none⟩) := s4
     have s7 : ax.tmps.getD 7 undef = .agg #[.int .u64 a, .int .u64 b] := (hdone 1 _ rfl rfl).2 _ rfl
     have hr : wx.heap[g3]? = some (.cells #[.int .u64 0, .int .u64 0] 95 (0, 0)) := r4
     exact wpOp_skp (w' := wx.setRow g3 #[.int .u64 a, .int .u64 b]) rfl rfl (exec_storeR 95 _ _ rfl g3 #[.int .u64 a, .int .u64 b] (show ax.eval (.tmp 4) = .pointer (some ⟨g3, 0, none⟩) from s4) (show ax.eval (.tmp 7) = .agg #[.int .u64 a, .int .u64 b] from s7) hr (by kernel_rfl) rfl (by simp [Value.oneCell'])) ⟨undef, rfl, trivial, hS.storeA 6 4 4 95 #[.int .u64 0, .int .u64 0] #[.int .u64 a, .int .u64 b] [] [⟨5, 5, 99, (cS 0 0), some 7, (cS c d)⟩] rfl B1.size hd4 g3 s4 (by decide) rfl (stored_setRow wx g3 _ _ _ hr)⟩
    ·
     have hd5 := (hdone 0 _ rfl rfl).1
     obtain ⟨g4, s5, n5, r5⟩ := SX.rowA hS [⟨4, 4, 95, (cU 0 0), some 6, (cU a b)⟩] [] 5 5 99 _ _ 7 rfl hd5 hfi
     have s5 : ax.tmps.getD 5 undef = .pointer (some ⟨g4, 0, none⟩) := s5
     have s9 : ax.tmps.getD 9 undef = .agg #[.int .i64 c, .int .i64 d] := (hdone 1 _ rfl rfl).2 _ rfl
     have hr : wx.heap[g4]? = some (.cells #[.int .i64 0, .int .i64 0] 99 (0, 0)) := r5
     exact wpOp_skp (w' := wx.setRow g4 #[.int .i64 c, .int .i64 d]) rfl rfl (exec_storeR 99 _ _ rfl g4 #[.int .i64 c, .int .i64 d] (show ax.eval (.tmp 5) = .pointer (some ⟨g4, 0, none⟩) from s5) (show ax.eval (.tmp 9) = .agg #[.int .i64 c, .int .i64 d] from s9) hr (by kernel_rfl) rfl (by simp [Value.oneCell'])) ⟨undef, rfl, trivial, hS.storeA 7 5 5 99 #[.int .i64 0, .int .i64 0] #[.int .i64 c, .int .i64 d] [⟨4, 4, 95, (cU 0 0), some 6, (cU a b)⟩] [] rfl B1.size hd5 g4 s5 (by decide) rfl (stored_setRow wx g4 _ _ _ hr)⟩
  intro a2 w2 fl d2 z2 rest2 R2 hfl hS
  obtain ⟨B2, n2, hBs, hAs, hPs⟩ := hS.finish hfl rfl
  replace d2 := d2.trans d1
  replace z2 := z2.trans z1
  obtain ⟨⟨l_g1_2, b_g1_2⟩, ⟨l_g2_2, b_g2_2⟩, -⟩ := hBs
  replace l_g1_2 : g1 < w1.heap.size := l_g1_2
  replace l_g2_2 : g2 < w1.heap.size := l_g2_2
  obtain ⟨⟨g3, u_g3, q_g3, b_g3_2⟩, ⟨g4, u_g4, q_g4, b_g4_2⟩, -⟩ := hAs
  replace u_g3 : a2.tmps.getD 4 undef = .pointer (some ⟨g3, 0, none⟩) := u_g3
  have m_g3 : w1.heap.size ≤ g3 := q_g3
  replace q_g3 : W.heap.size ≤ g3 := Nat.le_trans B1.size q_g3
  replace u_g4 : a2.tmps.getD 5 undef = .pointer (some ⟨g4, 0, none⟩) := u_g4
  have m_g4 : w1.heap.size ≤ g4 := q_g4
  replace q_g4 : W.heap.size ≤ g4 := Nat.le_trans B1.size q_g4
  simp only [List.pairwise_cons, List.mem_cons, List.not_mem_nil, or_false, forall_eq_or_imp, forall_eq] at hPs
  have ne_g3_g4 : g3 ≠ g4 := by
    have hn : slotOf a2 4 ≠ slotOf a2 5 := hPs.1
    intro e; subst e; exact hn (Eq.trans u_g3 u_g4.symm)
  have s1_2 := (rest2 1 (not_of (by kernel_rfl))).trans u_g1
  have s2_2 := (rest2 2 (not_of (by kernel_rfl))).trans u_g2
  have s3_2 := (rest2 3 (not_of (by kernel_rfl))).trans s3_1
  clear R2 rest2 hS hfl hPs
  clear u_g1 u_g2 s3_1 b_g1_1 b_g2_1 d1 z1
  refine wp_seq ?_
  refine wp_regx (SX W w2.heap.size [⟨g1, 60, (cR a b c d), none, #[]⟩, ⟨g2, 60, (cR 0 0 0 0), none, #[]⟩, ⟨g3, 95, (cU a b), none, #[]⟩, ⟨g4, 99, (cS c d), some 5, (cS s1.lo s1.hi)⟩] []) (TabX [fun vx => vx = .agg #[.int .i64 c, .int .i64 d], fun vx => vx = .agg #[.int .i64 c, .int .i64 d], fun vx => vx = .agg #[.int .u64 a, .int .u64 b], fun vx => vx = .agg #[.int .i64 x1.lo, .int .i64 x1.hi], fun vx => vx = .agg #[.int .i64 s1.lo, .int .i64 s1.hi], fun _ => True]) (by kernel_rfl) (back_of (by kernel_rfl)) (dst_of (by kernel_rfl)) (in_ofz (by kernel_rfl) z2) (fun fl w1 hfl hw => SX.start' hw B2 hfl rfl ⟨b_g1_2, b_g2_2, b_g3_2, b_g4_2, trivial⟩) ?h3 ?_
  case h3 =>
    intro ix ox ax wx fl ho hS hfi clo hsz hrest hdone hund
    have t4 := (hrest 4 (not_of (by kernel_rfl))).trans u_g3
    have t5 := (hrest 5 (not_of (by kernel_rfl))).trans u_g4
    have hs : ax.tmps.size = 33 := hsz.trans z2
    have hi : ix < 6 := (Array.getElem?_eq_some_iff.1 ho).1
    clear hrest hsz hund
    obtain rfl | rfl | rfl | rfl | rfl | rfl : ix = 0 ∨ ix = 1 ∨ ix = 2 ∨ ix = 3 ∨ ix = 4 ∨ ix = 5 := by omega
    all_goals obtain rfl := Option.some.inj (show some _ = some ox from ho)
    ·
     have hr := hS.rowFi 3 rfl (not_yet clo hfi (by kernel_rfl))
     exact wpOp_val (v := .agg #[.int .i64 c, .int .i64 d]) (w' := wx) rfl rfl (exec_loadR 99 _ rfl g4 0 (show ax.eval (.tmp 5) = .pointer (some ⟨g4, 0, none⟩) from t5) hr [.int .i64 c, .int .i64 d] rfl _ Try.underlying99 rfl (by kernel_rfl)) ⟨_, rfl, tab_put rfl hs rfl rfl, hS.same 0 rfl⟩
    ·
     have hr := hS.rowFi 3 rfl (not_yet clo hfi (by kernel_rfl))
     exact wpOp_val (v := .agg #[.int .i64 c, .int .i64 d]) (w' := wx) rfl rfl (exec_loadR 99 _ rfl g4 0 (show ax.eval (.tmp 5) = .pointer (some ⟨g4, 0, none⟩) from t5) hr [.int .i64 c, .int .i64 d] rfl _ Try.underlying99 rfl (by kernel_rfl)) ⟨_, rfl, tab_put rfl hs rfl rfl, hS.same 1 rfl⟩
    ·
     have hr := hS.rowNi 2 rfl
     exact wpOp_val (v := .agg #[.int .u64 a, .int .u64 b]) (w' := wx) rfl rfl (exec_loadR 95 _ rfl g3 0 (show ax.eval (.tmp 4) = .pointer (some ⟨g3, 0, none⟩) from t4) hr [.int .u64 a, .int .u64 b] rfl _ Try.underlying95 rfl (by kernel_rfl)) ⟨_, rfl, tab_put rfl hs rfl rfl, hS.same 2 rfl⟩
    ·
     have s11 : ax.tmps.getD 11 undef = .agg #[.int .i64 c, .int .i64 d] := (hdone 0 _ rfl rfl).2 _ rfl
     have s12 : ax.tmps.getD 12 undef = .agg #[.int .u64 a, .int .u64 b] := (hdone 1 _ rfl rfl).2 _ rfl
     refine wpOp_call (args := #[.agg #[.int .i64 c, .int .i64 d], .agg #[.int .u64 a, .int .u64 b]]) rfl rfl (exec_call rfl rfl rfl (args2 (show ax.eval (.tmp 11) = .agg #[.int .i64 c, .int .i64 d] from s11) (show ax.eval (.tmp 12) = .agg #[.int .u64 a, .int .u64 b] from s12)) Try.func75 (by decide +kernel) rfl) ?_
     · refine (sameU_n c d a b wx HO.out.1).mono ?_
       rintro e w' ⟨rfl, b9⟩
       exact ⟨_, rfl, _, rfl, tab_put rfl hs rfl (congrArg (fun x : Pr => Value.agg #[.int .i64 x.lo, .int .i64 x.hi]) E1.out), hS.quiet 3 rfl b9⟩
    ·
     have s10 : ax.tmps.getD 10 undef = .agg #[.int .i64 c, .int .i64 d] := (hdone 0 _ rfl rfl).2 _ rfl
     have s13 : ax.tmps.getD 13 undef = .agg #[.int .i64 x1.lo, .int .i64 x1.hi] := (hdone 1 _ rfl rfl).2 _ rfl
     refine wpOp_call (args := #[.agg #[.int .i64 c, .int .i64 d], .agg #[.int .i64 x1.lo, .int .i64 x1.hi]]) rfl rfl (exec_call rfl rfl rfl (args2 (show ax.eval (.tmp 10) = .agg #[.int .i64 c, .int .i64 d] from s10) (show ax.eval (.tmp 13) = .agg #[.int .i64 x1.lo, .int .i64 x1.hi] from s13)) Try.func64 (by decide +kernel) rfl) ?_
     · refine (meetS_n c d x1.lo x1.hi wx).mono ?_
       rintro e w' ⟨rfl, b9⟩
       exact ⟨_, rfl, _, rfl, tab_put rfl hs rfl (congrArg (fun x : Pr => Value.agg #[.int .i64 x.lo, .int .i64 x.hi]) E2.out), hS.quiet 4 rfl b9⟩
    ·
     have s14 : ax.tmps.getD 14 undef = .agg #[.int .i64 s1.lo, .int .i64 s1.hi] := (hdone 0 _ rfl rfl).2 _ rfl
     have hr := hS.rowFi 3 rfl hfi
     exact wpOp_skp (w' := wx.setRow g4 #[.int .i64 s1.lo, .int .i64 s1.hi]) rfl rfl (exec_storeR 99 _ _ rfl g4 #[.int .i64 s1.lo, .int .i64 s1.hi] (show ax.eval (.tmp 5) = .pointer (some ⟨g4, 0, none⟩) from t5) (show ax.eval (.tmp 14) = .agg #[.int .i64 s1.lo, .int .i64 s1.hi] from s14) hr (by kernel_rfl) rfl (by simp [Value.oneCell'])) ⟨undef, rfl, trivial, hS.storeBi 5 3 rfl q_g4 rfl ⟨(show g1 ≠ g4 by omega), (show g2 ≠ g4 by omega), (show g3 ≠ g4 by omega), trivial⟩ (stored_setRow wx g4 _ _ _ hr)⟩
  intro a3 w3 fl d3 z3 rest3 R3 hfl hS
  obtain ⟨B3, n3, hBs, hAs, hPs⟩ := hS.finish hfl rfl
  replace d3 := d3.trans d2
  replace z3 := z3.trans z2
  obtain ⟨⟨-, b_g1_3⟩, ⟨-, b_g2_3⟩, ⟨l_g3_3, b_g3_3⟩, ⟨l_g4_3, b_g4_3⟩, -⟩ := hBs
  replace l_g3_3 : g3 < w2.heap.size := l_g3_3
  replace l_g4_3 : g4 < w2.heap.size := l_g4_3
  have s1_3 := (rest3 1 (not_of (by kernel_rfl))).trans s1_2
  have s2_3 := (rest3 2 (not_of (by kernel_rfl))).trans s2_2
  have s3_3 := (rest3 3 (not_of (by kernel_rfl))).trans s3_2
  have s4_3 := (rest3 4 (not_of (by kernel_rfl))).trans u_g3
  have s5_3 := (rest3 5 (not_of (by kernel_rfl))).trans u_g4
  clear R3 rest3 hS hfl hPs hAs
  clear u_g3 u_g4 s1_2 s2_2 s3_2 b_g1_2 b_g2_2 b_g3_2 b_g4_2 d2 z2
  refine wp_seq ?_
  refine wp_regx (SX W w3.heap.size [⟨g1, 60, (cR a b c d), none, #[]⟩, ⟨g2, 60, (cR 0 0 0 0), none, #[]⟩, ⟨g3, 95, (cU a b), some 5, (cU u1.lo u1.hi)⟩, ⟨g4, 99, (cS s1.lo s1.hi), none, #[]⟩] []) (TabX [fun vx => vx = .agg #[.int .u64 a, .int .u64 b], fun vx => vx = .agg #[.int .u64 a, .int .u64 b], fun vx => vx = .agg #[.int .i64 s1.lo, .int .i64 s1.hi], fun vx => vx = .agg #[.int .u64 x2.lo, .int .u64 x2.hi], fun vx => vx = .agg #[.int .u64 u1.lo, .int .u64 u1.hi], fun _ => True]) (by kernel_rfl) (back_of (by kernel_rfl)) (dst_of (by kernel_rfl)) (in_ofz (by kernel_rfl) z3) (fun fl w1 hfl hw => SX.start' hw B3 hfl rfl ⟨b_g1_3, b_g2_3, b_g3_3, b_g4_3, trivial⟩) ?h4 ?_
  case h4 =>
    intro ix ox ax wx fl ho hS hfi clo hsz hrest hdone hund
    have t4 := (hrest 4 (not_of (by kernel_rfl))).trans s4_3
    have t5 := (hrest 5 (not_of (by kernel_rfl))).trans s5_3
    have hs : ax.tmps.size = 33 := hsz.trans z3
    have hi : ix < 6 := (Array.getElem?_eq_some_iff.1 ho).1
    clear hrest hsz hund
    obtain rfl | rfl | rfl | rfl | rfl | rfl : ix = 0 ∨ ix = 1 ∨ ix = 2 ∨ ix = 3 ∨ ix = 4 ∨ ix = 5 := by omega
    all_goals obtain rfl := Option.some.inj (show some _ = some ox from ho)
    ·
     have hr := hS.rowFi 2 rfl (not_yet clo hfi (by kernel_rfl))
     exact wpOp_val (v := .agg #[.int .u64 a, .int .u64 b]) (w' := wx) rfl rfl (exec_loadR 95 _ rfl g3 0 (show ax.eval (.tmp 4) = .pointer (some ⟨g3, 0, none⟩) from t4) hr [.int .u64 a, .int .u64 b] rfl _ Try.underlying95 rfl (by kernel_rfl)) ⟨_, rfl, tab_put rfl hs rfl rfl, hS.same 0 rfl⟩
    ·
     have hr := hS.rowFi 2 rfl (not_yet clo hfi (by kernel_rfl))
     exact wpOp_val (v := .agg #[.int .u64 a, .int .u64 b]) (w' := wx) rfl rfl (exec_loadR 95 _ rfl g3 0 (show ax.eval (.tmp 4) = .pointer (some ⟨g3, 0, none⟩) from t4) hr [.int .u64 a, .int .u64 b] rfl _ Try.underlying95 rfl (by kernel_rfl)) ⟨_, rfl, tab_put rfl hs rfl rfl, hS.same 1 rfl⟩
    ·
     have hr := hS.rowNi 3 rfl
     exact wpOp_val (v := .agg #[.int .i64 s1.lo, .int .i64 s1.hi]) (w' := wx) rfl rfl (exec_loadR 99 _ rfl g4 0 (show ax.eval (.tmp 5) = .pointer (some ⟨g4, 0, none⟩) from t5) hr [.int .i64 s1.lo, .int .i64 s1.hi] rfl _ Try.underlying99 rfl (by kernel_rfl)) ⟨_, rfl, tab_put rfl hs rfl rfl, hS.same 2 rfl⟩
    ·
     have s16 : ax.tmps.getD 16 undef = .agg #[.int .u64 a, .int .u64 b] := (hdone 0 _ rfl rfl).2 _ rfl
     have s17 : ax.tmps.getD 17 undef = .agg #[.int .i64 s1.lo, .int .i64 s1.hi] := (hdone 1 _ rfl rfl).2 _ rfl
     refine wpOp_call (args := #[.agg #[.int .u64 a, .int .u64 b], .agg #[.int .i64 s1.lo, .int .i64 s1.hi]]) rfl rfl (exec_call rfl rfl rfl (args2 (show ax.eval (.tmp 16) = .agg #[.int .u64 a, .int .u64 b] from s16) (show ax.eval (.tmp 17) = .agg #[.int .i64 s1.lo, .int .i64 s1.hi] from s17)) Try.func76 (by decide +kernel) rfl) ?_
     · refine (sameS_n a b s1.lo s1.hi wx HO1.out).mono ?_
       rintro e w' ⟨rfl, b9⟩
       exact ⟨_, rfl, _, rfl, tab_put rfl hs rfl (congrArg (fun x : Pr => Value.agg #[.int .u64 x.lo, .int .u64 x.hi]) E3.out), hS.quiet 3 rfl b9⟩
    ·
     have s15 : ax.tmps.getD 15 undef = .agg #[.int .u64 a, .int .u64 b] := (hdone 0 _ rfl rfl).2 _ rfl
     have s18 : ax.tmps.getD 18 undef = .agg #[.int .u64 x2.lo, .int .u64 x2.hi] := (hdone 1 _ rfl rfl).2 _ rfl
     refine wpOp_call (args := #[.agg #[.int .u64 a, .int .u64 b], .agg #[.int .u64 x2.lo, .int .u64 x2.hi]]) rfl rfl (exec_call rfl rfl rfl (args2 (show ax.eval (.tmp 15) = .agg #[.int .u64 a, .int .u64 b] from s15) (show ax.eval (.tmp 18) = .agg #[.int .u64 x2.lo, .int .u64 x2.hi] from s18)) Try.func62 (by decide +kernel) rfl) ?_
     · refine (meetU_n a b x2.lo x2.hi wx).mono ?_
       rintro e w' ⟨rfl, b9⟩
       exact ⟨_, rfl, _, rfl, tab_put rfl hs rfl (congrArg (fun x : Pr => Value.agg #[.int .u64 x.lo, .int .u64 x.hi]) E4.out), hS.quiet 4 rfl b9⟩
    ·
     have s19 : ax.tmps.getD 19 undef = .agg #[.int .u64 u1.lo, .int .u64 u1.hi] := (hdone 0 _ rfl rfl).2 _ rfl
     have hr := hS.rowFi 2 rfl hfi
     exact wpOp_skp (w' := wx.setRow g3 #[.int .u64 u1.lo, .int .u64 u1.hi]) rfl rfl (exec_storeR 95 _ _ rfl g3 #[.int .u64 u1.lo, .int .u64 u1.hi] (show ax.eval (.tmp 4) = .pointer (some ⟨g3, 0, none⟩) from t4) (show ax.eval (.tmp 19) = .agg #[.int .u64 u1.lo, .int .u64 u1.hi] from s19) hr (by kernel_rfl) rfl (by simp [Value.oneCell'])) ⟨undef, rfl, trivial, hS.storeBi 5 2 rfl q_g3 rfl ⟨(show g1 ≠ g3 by omega), (show g2 ≠ g3 by omega), (show g4 ≠ g3 by omega), trivial⟩ (stored_setRow wx g3 _ _ _ hr)⟩
  intro a4 w4 fl d4 z4 rest4 R4 hfl hS
  obtain ⟨B4, n4, hBs, hAs, hPs⟩ := hS.finish hfl rfl
  replace d4 := d4.trans d3
  replace z4 := z4.trans z3
  obtain ⟨⟨-, b_g1_4⟩, ⟨-, b_g2_4⟩, ⟨-, b_g3_4⟩, ⟨-, b_g4_4⟩, -⟩ := hBs
  have s1_4 := (rest4 1 (not_of (by kernel_rfl))).trans s1_3
  have s2_4 := (rest4 2 (not_of (by kernel_rfl))).trans s2_3
  have s3_4 := (rest4 3 (not_of (by kernel_rfl))).trans s3_3
  have s4_4 := (rest4 4 (not_of (by kernel_rfl))).trans s4_3
  have s5_4 := (rest4 5 (not_of (by kernel_rfl))).trans s5_3
  clear R4 rest4 hS hfl hPs hAs
  clear s1_3 s2_3 s3_3 s4_3 s5_3 b_g1_3 b_g2_3 b_g3_3 b_g4_3 d3 z3
  refine wp_seq ?_
  refine wp_regx (SX W w4.heap.size [⟨g1, 60, (cR a b c d), none, #[]⟩, ⟨g2, 60, (cR 0 0 0 0), none, #[]⟩, ⟨g3, 95, (cU u1.lo u1.hi), none, #[]⟩, ⟨g4, 99, (cS s1.lo s1.hi), some 5, (cS s2.lo s2.hi)⟩] []) (TabX [fun vx => vx = .agg #[.int .i64 s1.lo, .int .i64 s1.hi], fun vx => vx = .agg #[.int .i64 s1.lo, .int .i64 s1.hi], fun vx => vx = .agg #[.int .u64 u1.lo, .int .u64 u1.hi], fun vx => vx = .agg #[.int .i64 x3.lo, .int .i64 x3.hi], fun vx => vx = .agg #[.int .i64 s2.lo, .int .i64 s2.hi], fun _ => True]) (by kernel_rfl) (back_of (by kernel_rfl)) (dst_of (by kernel_rfl)) (in_ofz (by kernel_rfl) z4) (fun fl w1 hfl hw => SX.start' hw B4 hfl rfl ⟨b_g1_4, b_g2_4, b_g3_4, b_g4_4, trivial⟩) ?h5 ?_
  case h5 =>
    intro ix ox ax wx fl ho hS hfi clo hsz hrest hdone hund
    have t4 := (hrest 4 (not_of (by kernel_rfl))).trans s4_4
    have t5 := (hrest 5 (not_of (by kernel_rfl))).trans s5_4
    have hs : ax.tmps.size = 33 := hsz.trans z4
    have hi : ix < 6 := (Array.getElem?_eq_some_iff.1 ho).1
    clear hrest hsz hund
    obtain rfl | rfl | rfl | rfl | rfl | rfl : ix = 0 ∨ ix = 1 ∨ ix = 2 ∨ ix = 3 ∨ ix = 4 ∨ ix = 5 := by omega
    all_goals obtain rfl := Option.some.inj (show some _ = some ox from ho)
    ·
     have hr := hS.rowFi 3 rfl (not_yet clo hfi (by kernel_rfl))
     exact wpOp_val (v := .agg #[.int .i64 s1.lo, .int .i64 s1.hi]) (w' := wx) rfl rfl (exec_loadR 99 _ rfl g4 0 (show ax.eval (.tmp 5) = .pointer (some ⟨g4, 0, none⟩) from t5) hr [.int .i64 s1.lo, .int .i64 s1.hi] rfl _ Try.underlying99 rfl (by kernel_rfl)) ⟨_, rfl, tab_put rfl hs rfl rfl, hS.same 0 rfl⟩
    ·
     have hr := hS.rowFi 3 rfl (not_yet clo hfi (by kernel_rfl))
     exact wpOp_val (v := .agg #[.int .i64 s1.lo, .int .i64 s1.hi]) (w' := wx) rfl rfl (exec_loadR 99 _ rfl g4 0 (show ax.eval (.tmp 5) = .pointer (some ⟨g4, 0, none⟩) from t5) hr [.int .i64 s1.lo, .int .i64 s1.hi] rfl _ Try.underlying99 rfl (by kernel_rfl)) ⟨_, rfl, tab_put rfl hs rfl rfl, hS.same 1 rfl⟩
    ·
     have hr := hS.rowNi 2 rfl
     exact wpOp_val (v := .agg #[.int .u64 u1.lo, .int .u64 u1.hi]) (w' := wx) rfl rfl (exec_loadR 95 _ rfl g3 0 (show ax.eval (.tmp 4) = .pointer (some ⟨g3, 0, none⟩) from t4) hr [.int .u64 u1.lo, .int .u64 u1.hi] rfl _ Try.underlying95 rfl (by kernel_rfl)) ⟨_, rfl, tab_put rfl hs rfl rfl, hS.same 2 rfl⟩
    ·
     have s21 : ax.tmps.getD 21 undef = .agg #[.int .i64 s1.lo, .int .i64 s1.hi] := (hdone 0 _ rfl rfl).2 _ rfl
     have s22 : ax.tmps.getD 22 undef = .agg #[.int .u64 u1.lo, .int .u64 u1.hi] := (hdone 1 _ rfl rfl).2 _ rfl
     refine wpOp_call (args := #[.agg #[.int .i64 s1.lo, .int .i64 s1.hi], .agg #[.int .u64 u1.lo, .int .u64 u1.hi]]) rfl rfl (exec_call rfl rfl rfl (args2 (show ax.eval (.tmp 21) = .agg #[.int .i64 s1.lo, .int .i64 s1.hi] from s21) (show ax.eval (.tmp 22) = .agg #[.int .u64 u1.lo, .int .u64 u1.hi] from s22)) Try.func75 (by decide +kernel) rfl) ?_
     · refine (sameU_n s1.lo s1.hi u1.lo u1.hi wx HO2.out).mono ?_
       rintro e w' ⟨rfl, b9⟩
       exact ⟨_, rfl, _, rfl, tab_put rfl hs rfl (congrArg (fun x : Pr => Value.agg #[.int .i64 x.lo, .int .i64 x.hi]) E5.out), hS.quiet 3 rfl b9⟩
    ·
     have s20 : ax.tmps.getD 20 undef = .agg #[.int .i64 s1.lo, .int .i64 s1.hi] := (hdone 0 _ rfl rfl).2 _ rfl
     have s23 : ax.tmps.getD 23 undef = .agg #[.int .i64 x3.lo, .int .i64 x3.hi] := (hdone 1 _ rfl rfl).2 _ rfl
     refine wpOp_call (args := #[.agg #[.int .i64 s1.lo, .int .i64 s1.hi], .agg #[.int .i64 x3.lo, .int .i64 x3.hi]]) rfl rfl (exec_call rfl rfl rfl (args2 (show ax.eval (.tmp 20) = .agg #[.int .i64 s1.lo, .int .i64 s1.hi] from s20) (show ax.eval (.tmp 23) = .agg #[.int .i64 x3.lo, .int .i64 x3.hi] from s23)) Try.func64 (by decide +kernel) rfl) ?_
     · refine (meetS_n s1.lo s1.hi x3.lo x3.hi wx).mono ?_
       rintro e w' ⟨rfl, b9⟩
       exact ⟨_, rfl, _, rfl, tab_put rfl hs rfl (congrArg (fun x : Pr => Value.agg #[.int .i64 x.lo, .int .i64 x.hi]) E6.out), hS.quiet 4 rfl b9⟩
    ·
     have s24 : ax.tmps.getD 24 undef = .agg #[.int .i64 s2.lo, .int .i64 s2.hi] := (hdone 0 _ rfl rfl).2 _ rfl
     have hr := hS.rowFi 3 rfl hfi
     exact wpOp_skp (w' := wx.setRow g4 #[.int .i64 s2.lo, .int .i64 s2.hi]) rfl rfl (exec_storeR 99 _ _ rfl g4 #[.int .i64 s2.lo, .int .i64 s2.hi] (show ax.eval (.tmp 5) = .pointer (some ⟨g4, 0, none⟩) from t5) (show ax.eval (.tmp 24) = .agg #[.int .i64 s2.lo, .int .i64 s2.hi] from s24) hr (by kernel_rfl) rfl (by simp [Value.oneCell'])) ⟨undef, rfl, trivial, hS.storeBi 5 3 rfl q_g4 rfl ⟨(show g1 ≠ g4 by omega), (show g2 ≠ g4 by omega), (show g3 ≠ g4 by omega), trivial⟩ (stored_setRow wx g4 _ _ _ hr)⟩
  intro a5 w5 fl d5 z5 rest5 R5 hfl hS
  obtain ⟨B5, n5, hBs, hAs, hPs⟩ := hS.finish hfl rfl
  replace d5 := d5.trans d4
  replace z5 := z5.trans z4
  obtain ⟨⟨-, b_g1_5⟩, ⟨-, b_g2_5⟩, ⟨-, b_g3_5⟩, ⟨-, b_g4_5⟩, -⟩ := hBs
  have s1_5 := (rest5 1 (not_of (by kernel_rfl))).trans s1_4
  have s2_5 := (rest5 2 (not_of (by kernel_rfl))).trans s2_4
  have s3_5 := (rest5 3 (not_of (by kernel_rfl))).trans s3_4
  have s4_5 := (rest5 4 (not_of (by kernel_rfl))).trans s4_4
  have s5_5 := (rest5 5 (not_of (by kernel_rfl))).trans s5_4
  clear R5 rest5 hS hfl hPs hAs
  clear s1_4 s2_4 s3_4 s4_4 s5_4 b_g1_4 b_g2_4 b_g3_4 b_g4_4 d4 z4
  refine wp_seq ?_
  refine wp_seq ?_
  refine wp_regx (SX W w5.heap.size [⟨g1, 60, (cR a b c d), some 3, (cR u1.lo u1.hi s2.lo s2.hi)⟩, ⟨g2, 60, (cR 0 0 0 0), none, #[]⟩, ⟨g3, 95, (cU u1.lo u1.hi), none, #[]⟩, ⟨g4, 99, (cS s2.lo s2.hi), none, #[]⟩] []) (TabX [fun vx => vx = .agg #[.int .u64 u1.lo, .int .u64 u1.hi], fun vx => vx = .agg #[.int .i64 s2.lo, .int .i64 s2.hi], fun vx => vx = .agg #[.int .u64 u1.lo, .int .u64 u1.hi, .int .i64 s2.lo, .int .i64 s2.hi], fun _ => True]) (by kernel_rfl) (back_of (by kernel_rfl)) (dst_of (by kernel_rfl)) (in_ofz (by kernel_rfl) z5) (fun fl w1 hfl hw => SX.start' hw B5 hfl rfl ⟨b_g1_5, b_g2_5, b_g3_5, b_g4_5, trivial⟩) ?h6 ?_
  case h6 =>
    intro ix ox ax wx fl ho hS hfi clo hsz hrest hdone hund
    have t1 := (hrest 1 (not_of (by kernel_rfl))).trans s1_5
    have t4 := (hrest 4 (not_of (by kernel_rfl))).trans s4_5
    have t5 := (hrest 5 (not_of (by kernel_rfl))).trans s5_5
    have hs : ax.tmps.size = 33 := hsz.trans z5
    have hi : ix < 4 := (Array.getElem?_eq_some_iff.1 ho).1
    clear hrest hsz hund
    obtain rfl | rfl | rfl | rfl : ix = 0 ∨ ix = 1 ∨ ix = 2 ∨ ix = 3 := by omega
    all_goals obtain rfl := Option.some.inj (show some _ = some ox from ho)
    ·
     have hr := hS.rowNi 2 rfl
     exact wpOp_val (v := .agg #[.int .u64 u1.lo, .int .u64 u1.hi]) (w' := wx) rfl rfl (exec_loadR 95 _ rfl g3 0 (show ax.eval (.tmp 4) = .pointer (some ⟨g3, 0, none⟩) from t4) hr [.int .u64 u1.lo, .int .u64 u1.hi] rfl _ Try.underlying95 rfl (by kernel_rfl)) ⟨_, rfl, tab_put rfl hs rfl rfl, hS.same 0 rfl⟩
    ·
     have hr := hS.rowNi 3 rfl
     exact wpOp_val (v := .agg #[.int .i64 s2.lo, .int .i64 s2.hi]) (w' := wx) rfl rfl (exec_loadR 99 _ rfl g4 0 (show ax.eval (.tmp 5) = .pointer (some ⟨g4, 0, none⟩) from t5) hr [.int .i64 s2.lo, .int .i64 s2.hi] rfl _ Try.underlying99 rfl (by kernel_rfl)) ⟨_, rfl, tab_put rfl hs rfl rfl, hS.same 1 rfl⟩
    ·
     have s25 : ax.tmps.getD 25 undef = .agg #[.int .u64 u1.lo, .int .u64 u1.hi] := (hdone 0 _ rfl rfl).2 _ rfl
     have s26 : ax.tmps.getD 26 undef = .agg #[.int .i64 s2.lo, .int .i64 s2.hi] := (hdone 1 _ rfl rfl).2 _ rfl
     refine wpOp_call (args := #[.agg #[.int .u64 u1.lo, .int .u64 u1.hi], .agg #[.int .i64 s2.lo, .int .i64 s2.hi]]) rfl rfl (exec_call rfl rfl rfl (args2 (show ax.eval (.tmp 25) = .agg #[.int .u64 u1.lo, .int .u64 u1.hi] from s25) (show ax.eval (.tmp 26) = .agg #[.int .i64 s2.lo, .int .i64 s2.hi] from s26)) Try.func60 (by decide +kernel) rfl) ?_
     · refine (both_n u1.lo u1.hi s2.lo s2.hi wx).mono ?_
       rintro e w' ⟨rfl, b9⟩
       exact ⟨_, rfl, _, rfl, tab_put rfl hs rfl rfl, hS.quiet 2 rfl b9⟩
    ·
     have s27 : ax.tmps.getD 27 undef = .agg #[.int .u64 u1.lo, .int .u64 u1.hi, .int .i64 s2.lo, .int .i64 s2.hi] := (hdone 0 _ rfl rfl).2 _ rfl
     have hr := hS.rowFi 0 rfl hfi
     exact wpOp_skp (w' := wx.setRow g1 #[.int .u64 u1.lo, .int .u64 u1.hi, .int .i64 s2.lo, .int .i64 s2.hi]) rfl rfl (exec_storeR 60 _ _ rfl g1 #[.int .u64 u1.lo, .int .u64 u1.hi, .int .i64 s2.lo, .int .i64 s2.hi] (show ax.eval (.tmp 1) = .pointer (some ⟨g1, 0, none⟩) from t1) (show ax.eval (.tmp 27) = .agg #[.int .u64 u1.lo, .int .u64 u1.hi, .int .i64 s2.lo, .int .i64 s2.hi] from s27) hr (by kernel_rfl) rfl (by simp [Value.oneCell'])) ⟨undef, rfl, trivial, hS.storeBi 3 0 rfl q_g1 rfl ⟨(show g2 ≠ g1 by omega), (show g3 ≠ g1 by omega), (show g4 ≠ g1 by omega), trivial⟩ (stored_setRow wx g1 _ _ _ hr)⟩
  intro a6 w6 fl d6 z6 rest6 R6 hfl hS
  obtain ⟨B6, n6, hBs, hAs, hPs⟩ := hS.finish hfl rfl
  replace d6 := d6.trans d5
  replace z6 := z6.trans z5
  obtain ⟨⟨-, b_g1_6⟩, ⟨-, b_g2_6⟩, ⟨-, b_g3_6⟩, ⟨-, b_g4_6⟩, -⟩ := hBs
  have s1_6 := (rest6 1 (not_of (by kernel_rfl))).trans s1_5
  have s2_6 := (rest6 2 (not_of (by kernel_rfl))).trans s2_5
  have s3_6 := (rest6 3 (not_of (by kernel_rfl))).trans s3_5
  clear R6 rest6 hS hfl hPs hAs
  clear s1_5 s2_5 s3_5 s4_5 s5_5 b_g1_5 b_g2_5 b_g3_5 b_g4_5 d5 z5
  refine wp_seq ?_
  cases fk1 : Rg.mayB ⟨u1, s2⟩
  case false =>
   have Ffk1 := Lib.hid fk1; clear fk1
   refine wp_regx (SX W w6.heap.size [⟨g1, 60, (cR u1.lo u1.hi s2.lo s2.hi), none, #[]⟩, ⟨g2, 60, (cR 0 0 0 0), none, #[]⟩, ⟨g3, 95, (cU u1.lo u1.hi), none, #[]⟩, ⟨g4, 99, (cS s2.lo s2.hi), none, #[]⟩] []) (TabX [fun vx => vx = .agg #[.int .u64 u1.lo, .int .u64 u1.hi, .int .i64 s2.lo, .int .i64 s2.hi], fun vx => vx = .bool false, fun vx => vx = .bool true]) (by kernel_rfl) (back_of (by kernel_rfl)) (dst_of (by kernel_rfl)) (in_ofz (by kernel_rfl) z6) (fun fl w1 hfl hw => SX.start' hw B6 hfl rfl ⟨b_g1_6, b_g2_6, b_g3_6, b_g4_6, trivial⟩) ?h7 ?_
   case h7 =>
     intro ix ox ax wx fl ho hS hfi clo hsz hrest hdone hund
     have t1 := (hrest 1 (not_of (by kernel_rfl))).trans s1_6
     have hs : ax.tmps.size = 33 := hsz.trans z6
     have hi : ix < 3 := (Array.getElem?_eq_some_iff.1 ho).1
     clear hrest hsz hund
     obtain rfl | rfl | rfl : ix = 0 ∨ ix = 1 ∨ ix = 2 := by omega
     all_goals obtain rfl := Option.some.inj (show some _ = some ox from ho)
     ·
      have hr := hS.rowNi 0 rfl
      exact wpOp_val (v := .agg #[.int .u64 u1.lo, .int .u64 u1.hi, .int .i64 s2.lo, .int .i64 s2.hi]) (w' := wx) rfl rfl (exec_loadR 60 _ rfl g1 0 (show ax.eval (.tmp 1) = .pointer (some ⟨g1, 0, none⟩) from t1) hr [.int .u64 u1.lo, .int .u64 u1.hi, .int .i64 s2.lo, .int .i64 s2.hi] rfl _ Try.underlying60 rfl (by kernel_rfl)) ⟨_, rfl, tab_put rfl hs rfl rfl, hS.same 0 rfl⟩
     ·
      have s28 : ax.tmps.getD 28 undef = .agg #[.int .u64 u1.lo, .int .u64 u1.hi, .int .i64 s2.lo, .int .i64 s2.hi] := (hdone 0 _ rfl rfl).2 _ rfl
      refine wpOp_call (args := #[.agg #[.int .u64 u1.lo, .int .u64 u1.hi, .int .i64 s2.lo, .int .i64 s2.hi]]) rfl rfl (exec_call rfl rfl rfl (args1 (show ax.eval (.tmp 28) = .agg #[.int .u64 u1.lo, .int .u64 u1.hi, .int .i64 s2.lo, .int .i64 s2.hi] from s28)) Try.func30 (by decide +kernel) rfl) ?_
      · refine (may_n u1.lo u1.hi s2.lo s2.hi wx).mono ?_
        rintro e w' ⟨rfl, b9⟩
        exact ⟨_, rfl, _, rfl, tab_put rfl hs rfl (congrArg Value.bool Ffk1.out), hS.quiet 1 rfl b9⟩
     ·
      have s29 : ax.tmps.getD 29 undef = .bool false := (hdone 0 _ rfl rfl).2 _ rfl
      exact wpOp_val (v := .bool true) (w' := wx) rfl rfl (by simp [execOp, Act.eval, s29, go_sem]) ⟨_, rfl, tab_put rfl hs rfl rfl, hS.same 2 rfl⟩
   intro a7 w7 fl d7 z7 rest7 R7 hfl hS
   obtain ⟨B7, n7, hBs, hAs, hPs⟩ := hS.finish hfl rfl
   replace d7 := d7.trans d6
   replace z7 := z7.trans z6
   obtain ⟨⟨-, b_g1_7⟩, ⟨-, b_g2_7⟩, ⟨-, b_g3_7⟩, ⟨-, b_g4_7⟩, -⟩ := hBs
   have s1_7 := (rest7 1 (not_of (by kernel_rfl))).trans s1_6
   have s2_7 := (rest7 2 (not_of (by kernel_rfl))).trans s2_6
   have s3_7 := (rest7 3 (not_of (by kernel_rfl))).trans s3_6
   have s30_7 : a7.tmps.getD 30 undef = .bool true := R7 2 _ rfl
   clear R7 rest7 hS hfl hPs hAs
   clear s1_6 s2_6 s3_6 b_g1_6 b_g2_6 b_g3_6 b_g4_6 d6 z6
   refine wp_cond_true (show a7.tmps.getD 30 undef = .bool true from s30_7) ?_
   refine wp_seq ?_
   refine wp_regx (SX W w7.heap.size [⟨g1, 60, (cR u1.lo u1.hi s2.lo s2.hi), none, #[]⟩, ⟨g2, 60, (cR 0 0 0 0), some 1, (cR allR.u.lo allR.u.hi allR.s.lo allR.s.hi)⟩, ⟨g3, 95, (cU u1.lo u1.hi), none, #[]⟩, ⟨g4, 99, (cS s2.lo s2.hi), none, #[]⟩] []) (TabX [fun vx => vx = .agg #[.int .u64 allR.u.lo, .int .u64 allR.u.hi, .int .i64 allR.s.lo, .int .i64 allR.s.hi], fun _ => True, fun vx => vx = .bool false]) (by kernel_rfl) (back_of (by kernel_rfl)) (dst_of (by kernel_rfl)) (in_ofz (by kernel_rfl) z7) (fun fl w1 hfl hw => SX.start' hw B7 hfl rfl ⟨b_g1_7, b_g2_7, b_g3_7, b_g4_7, trivial⟩) ?h8 ?_
   case h8 =>
     intro ix ox ax wx fl ho hS hfi clo hsz hrest hdone hund
     have t2 := (hrest 2 (not_of (by kernel_rfl))).trans s2_7
     have hs : ax.tmps.size = 33 := hsz.trans z7
     have hi : ix < 3 := (Array.getElem?_eq_some_iff.1 ho).1
     clear hrest hsz hund
     obtain rfl | rfl | rfl : ix = 0 ∨ ix = 1 ∨ ix = 2 := by omega
     all_goals obtain rfl := Option.some.inj (show some _ = some ox from ho)
     ·
      refine wpOp_call (args := #[]) rfl rfl (exec_call rfl rfl rfl (args0 ) Try.func32 (by decide +kernel) rfl) ?_
      · refine (all_n wx).mono ?_
        rintro e w' ⟨rfl, b9⟩
        exact ⟨_, rfl, _, rfl, tab_put rfl hs rfl rfl, hS.quiet 0 rfl b9⟩
     ·
      have s31 : ax.tmps.getD 31 undef = .agg #[.int .u64 allR.u.lo, .int .u64 allR.u.hi, .int .i64 allR.s.lo, .int .i64 allR.s.hi] := (hdone 0 _ rfl rfl).2 _ rfl
      have hr := hS.rowFi 1 rfl hfi
      exact wpOp_skp (w' := wx.setRow g2 #[.int .u64 allR.u.lo, .int .u64 allR.u.hi, .int .i64 allR.s.lo, .int .i64 allR.s.hi]) rfl rfl (exec_storeR 60 _ _ rfl g2 #[.int .u64 allR.u.lo, .int .u64 allR.u.hi, .int .i64 allR.s.lo, .int .i64 allR.s.hi] (show ax.eval (.tmp 2) = .pointer (some ⟨g2, 0, none⟩) from t2) (show ax.eval (.tmp 31) = .agg #[.int .u64 allR.u.lo, .int .u64 allR.u.hi, .int .i64 allR.s.lo, .int .i64 allR.s.hi] from s31) hr (by kernel_rfl) rfl (by simp [Value.oneCell'])) ⟨undef, rfl, trivial, hS.storeBi 1 1 rfl q_g2 rfl ⟨(show g1 ≠ g2 by omega), (show g3 ≠ g2 by omega), (show g4 ≠ g2 by omega), trivial⟩ (stored_setRow wx g2 _ _ _ hr)⟩
     ·
      exact wpOp_val (v := .bool false) (w' := wx) rfl rfl (by simp [execOp, Act.eval]) ⟨_, rfl, tab_put rfl hs rfl rfl, hS.same 2 rfl⟩
   intro a8 w8 fl d8 z8 rest8 R8 hfl hS
   obtain ⟨B8, n8, hBs, hAs, hPs⟩ := hS.finish hfl rfl
   replace d8 := d8.trans d7
   replace z8 := z8.trans z7
   obtain ⟨⟨-, b_g1_8⟩, ⟨-, b_g2_8⟩, ⟨-, b_g3_8⟩, ⟨-, b_g4_8⟩, -⟩ := hBs
   have s1_8 := (rest8 1 (not_of (by kernel_rfl))).trans s1_7
   have s2_8 := (rest8 2 (not_of (by kernel_rfl))).trans s2_7
   have s3_8 : a8.tmps.getD 3 undef = .bool false := R8 2 _ rfl
   clear R8 rest8 hS hfl hPs hAs
   clear s1_7 s2_7 s3_7 s30_7 b_g1_7 b_g2_7 b_g3_7 b_g4_7 d7 z7
   refine wp_ret ?_
   try simp only [Exit.inBlock, Exit.then]
   refine bodyPost_ret (res_ct (fn := Try.f28) rfl s2_8 (load_row 60 b_g2_8 Try.underlying60 rfl (by kernel_rfl)) s3_8) d8 ?_
   exact ⟨HE0.out Ffk1.out, B8⟩
  have Ffk1 := Lib.hid fk1; clear fk1
  refine wp_regx (SX W w6.heap.size [⟨g1, 60, (cR u1.lo u1.hi s2.lo s2.hi), none, #[]⟩, ⟨g2, 60, (cR 0 0 0 0), none, #[]⟩, ⟨g3, 95, (cU u1.lo u1.hi), none, #[]⟩, ⟨g4, 99, (cS s2.lo s2.hi), none, #[]⟩] []) (TabX [fun vx => vx = .agg #[.int .u64 u1.lo, .int .u64 u1.hi, .int .i64 s2.lo, .int .i64 s2.hi], fun vx => vx = .bool true, fun vx => vx = .bool false]) (by kernel_rfl) (back_of (by kernel_rfl)) (dst_of (by kernel_rfl)) (in_ofz (by kernel_rfl) z6) (fun fl w1 hfl hw => SX.start' hw B6 hfl rfl ⟨b_g1_6, b_g2_6, b_g3_6, b_g4_6, trivial⟩) ?h9 ?_
  case h9 =>
    intro ix ox ax wx fl ho hS hfi clo hsz hrest hdone hund
    have t1 := (hrest 1 (not_of (by kernel_rfl))).trans s1_6
    have hs : ax.tmps.size = 33 := hsz.trans z6
    have hi : ix < 3 := (Array.getElem?_eq_some_iff.1 ho).1
    clear hrest hsz hund
    obtain rfl | rfl | rfl : ix = 0 ∨ ix = 1 ∨ ix = 2 := by omega
    all_goals obtain rfl := Option.some.inj (show some _ = some ox from ho)
    ·
     have hr := hS.rowNi 0 rfl
     exact wpOp_val (v := .agg #[.int .u64 u1.lo, .int .u64 u1.hi, .int .i64 s2.lo, .int .i64 s2.hi]) (w' := wx) rfl rfl (exec_loadR 60 _ rfl g1 0 (show ax.eval (.tmp 1) = .pointer (some ⟨g1, 0, none⟩) from t1) hr [.int .u64 u1.lo, .int .u64 u1.hi, .int .i64 s2.lo, .int .i64 s2.hi] rfl _ Try.underlying60 rfl (by kernel_rfl)) ⟨_, rfl, tab_put rfl hs rfl rfl, hS.same 0 rfl⟩
    ·
     have s28 : ax.tmps.getD 28 undef = .agg #[.int .u64 u1.lo, .int .u64 u1.hi, .int .i64 s2.lo, .int .i64 s2.hi] := (hdone 0 _ rfl rfl).2 _ rfl
     refine wpOp_call (args := #[.agg #[.int .u64 u1.lo, .int .u64 u1.hi, .int .i64 s2.lo, .int .i64 s2.hi]]) rfl rfl (exec_call rfl rfl rfl (args1 (show ax.eval (.tmp 28) = .agg #[.int .u64 u1.lo, .int .u64 u1.hi, .int .i64 s2.lo, .int .i64 s2.hi] from s28)) Try.func30 (by decide +kernel) rfl) ?_
     · refine (may_n u1.lo u1.hi s2.lo s2.hi wx).mono ?_
       rintro e w' ⟨rfl, b9⟩
       exact ⟨_, rfl, _, rfl, tab_put rfl hs rfl (congrArg Value.bool Ffk1.out), hS.quiet 1 rfl b9⟩
    ·
     have s29 : ax.tmps.getD 29 undef = .bool true := (hdone 0 _ rfl rfl).2 _ rfl
     exact wpOp_val (v := .bool false) (w' := wx) rfl rfl (by simp [execOp, Act.eval, s29, go_sem]) ⟨_, rfl, tab_put rfl hs rfl rfl, hS.same 2 rfl⟩
  intro a7 w7 fl d7 z7 rest7 R7 hfl hS
  obtain ⟨B7, n7, hBs, hAs, hPs⟩ := hS.finish hfl rfl
  replace d7 := d7.trans d6
  replace z7 := z7.trans z6
  obtain ⟨⟨-, b_g1_7⟩, ⟨-, b_g2_7⟩, ⟨-, b_g3_7⟩, ⟨-, b_g4_7⟩, -⟩ := hBs
  have s1_7 := (rest7 1 (not_of (by kernel_rfl))).trans s1_6
  have s2_7 := (rest7 2 (not_of (by kernel_rfl))).trans s2_6
  have s3_7 := (rest7 3 (not_of (by kernel_rfl))).trans s3_6
  have s30_7 : a7.tmps.getD 30 undef = .bool false := R7 2 _ rfl
  clear R7 rest7 hS hfl hPs hAs
  clear s1_6 s2_6 s3_6 b_g1_6 b_g2_6 b_g3_6 b_g4_6 d6 z6
  refine wp_cond_false (show a7.tmps.getD 30 undef = .bool false from s30_7) ?_
  refine wp_skip ?_
  refine wp_seq ?_
  refine wp_regx (SX W w7.heap.size [⟨g1, 60, (cR u1.lo u1.hi s2.lo s2.hi), none, #[]⟩, ⟨g2, 60, (cR 0 0 0 0), some 1, (cR u1.lo u1.hi s2.lo s2.hi)⟩, ⟨g3, 95, (cU u1.lo u1.hi), none, #[]⟩, ⟨g4, 99, (cS s2.lo s2.hi), none, #[]⟩] []) (TabX [fun vx => vx = .agg #[.int .u64 u1.lo, .int .u64 u1.hi, .int .i64 s2.lo, .int .i64 s2.hi], fun _ => True, fun vx => vx = .bool true]) (by kernel_rfl) (back_of (by kernel_rfl)) (dst_of (by kernel_rfl)) (in_ofz (by kernel_rfl) z7) (fun fl w1 hfl hw => SX.start' hw B7 hfl rfl ⟨b_g1_7, b_g2_7, b_g3_7, b_g4_7, trivial⟩) ?h10 ?_
  case h10 =>
    intro ix ox ax wx fl ho hS hfi clo hsz hrest hdone hund
    have t1 := (hrest 1 (not_of (by kernel_rfl))).trans s1_7
    have t2 := (hrest 2 (not_of (by kernel_rfl))).trans s2_7
    have hs : ax.tmps.size = 33 := hsz.trans z7
    have hi : ix < 3 := (Array.getElem?_eq_some_iff.1 ho).1
    clear hrest hsz hund
    obtain rfl | rfl | rfl : ix = 0 ∨ ix = 1 ∨ ix = 2 := by omega
    all_goals obtain rfl := Option.some.inj (show some _ = some ox from ho)
    ·
     have hr := hS.rowNi 0 rfl
     exact wpOp_val (v := .agg #[.int .u64 u1.lo, .int .u64 u1.hi, .int .i64 s2.lo, .int .i64 s2.hi]) (w' := wx) rfl rfl (exec_loadR 60 _ rfl g1 0 (show ax.eval (.tmp 1) = .pointer (some ⟨g1, 0, none⟩) from t1) hr [.int .u64 u1.lo, .int .u64 u1.hi, .int .i64 s2.lo, .int .i64 s2.hi] rfl _ Try.underlying60 rfl (by kernel_rfl)) ⟨_, rfl, tab_put rfl hs rfl rfl, hS.same 0 rfl⟩
    ·
     have s32 : ax.tmps.getD 32 undef = .agg #[.int .u64 u1.lo, .int .u64 u1.hi, .int .i64 s2.lo, .int .i64 s2.hi] := (hdone 0 _ rfl rfl).2 _ rfl
     have hr := hS.rowFi 1 rfl hfi
     exact wpOp_skp (w' := wx.setRow g2 #[.int .u64 u1.lo, .int .u64 u1.hi, .int .i64 s2.lo, .int .i64 s2.hi]) rfl rfl (exec_storeR 60 _ _ rfl g2 #[.int .u64 u1.lo, .int .u64 u1.hi, .int .i64 s2.lo, .int .i64 s2.hi] (show ax.eval (.tmp 2) = .pointer (some ⟨g2, 0, none⟩) from t2) (show ax.eval (.tmp 32) = .agg #[.int .u64 u1.lo, .int .u64 u1.hi, .int .i64 s2.lo, .int .i64 s2.hi] from s32) hr (by kernel_rfl) rfl (by simp [Value.oneCell'])) ⟨undef, rfl, trivial, hS.storeBi 1 1 rfl q_g2 rfl ⟨(show g1 ≠ g2 by omega), (show g3 ≠ g2 by omega), (show g4 ≠ g2 by omega), trivial⟩ (stored_setRow wx g2 _ _ _ hr)⟩
    ·
     exact wpOp_val (v := .bool true) (w' := wx) rfl rfl (by simp [execOp, Act.eval]) ⟨_, rfl, tab_put rfl hs rfl rfl, hS.same 2 rfl⟩
  intro a8 w8 fl d8 z8 rest8 R8 hfl hS
  obtain ⟨B8, n8, hBs, hAs, hPs⟩ := hS.finish hfl rfl
  replace d8 := d8.trans d7
  replace z8 := z8.trans z7
  obtain ⟨⟨-, b_g1_8⟩, ⟨-, b_g2_8⟩, ⟨-, b_g3_8⟩, ⟨-, b_g4_8⟩, -⟩ := hBs
  have s2_8 := (rest8 2 (not_of (by kernel_rfl))).trans s2_7
  have s3_8 : a8.tmps.getD 3 undef = .bool true := R8 2 _ rfl
  clear R8 rest8 hS hfl hPs hAs
  clear s1_7 s2_7 s3_7 s30_7 b_g1_7 b_g2_7 b_g3_7 b_g4_7 d7 z7
  refine wp_ret ?_
  try simp only [Exit.inBlock, Exit.then]
  refine bodyPost_ret (res_ct (fn := Try.f28) rfl s2_8 (load_row 60 b_g2_8 Try.underlying60 rfl (by kernel_rfl)) s3_8) d8 ?_
  exact ⟨HE1.out Ffk1.out, B8⟩

theorem wrap_sg (v : Int) : wrap64 v = sg v := by rw [wrap64]; rfl
theorem retV {a b : Value} (h : a = b) : Ending.returned a = .returned b := by rw [h]

set_option maxHeartbeats 4000000 in
theorem has_n (a b c d v : Int) (W : World) : Calls Try.prog 36 #[.agg #[.int .u64 a, .int .u64 b, .int .i64 c, .int .i64 d], .int .u64 v] W fun e w' => e = .returned (.bool (Rg.hasB ⟨⟨a, b⟩, ⟨c, d⟩⟩ v)) ∧ Below W.heap.size W w' := by
  refine calls_abs Try.func36 rfl (Nat.le_of_ble_eq_true rfl) ?_
  intro a0 d0 z0 h0
  have z0 : a0.tmps.size = 16 := z0
  have s0_0 : a0.tmps.getD 0 undef = .agg #[.int .u64 a, .int .u64 b, .int .i64 c, .int .i64 d] := h0 0 (Nat.le_of_ble_eq_true rfl)
  have s1_0 : a0.tmps.getD 1 undef = .int .u64 v := h0 1 (Nat.le_of_ble_eq_true rfl)
  clear h0
  have B0 : Below W.heap.size W W := Below.refl _ _
  refine wp_seq ?_
  refine wp_regx (SX W W.heap.size [] [⟨0, 2, 60, (cR a b c d), none, #[]⟩]) (TabX [fun _ => True, fun vx => vx = .bool false]) (by kernel_rfl) (back_of (by kernel_rfl)) (dst_of (by kernel_rfl)) (in_ofz (by kernel_rfl) z0) (fun fl w1 hfl hw => SX.start' hw B0 hfl rfl trivial) ?h1 ?_
  case h1 =>
    intro ix ox ax wx fl ho hS hfi clo hsz hrest hdone hund
    have t0 := (hrest 0 (not_of (by kernel_rfl))).trans s0_0
    have hs : ax.tmps.size = 16 := hsz.trans z0
    have hi : ix < 2 := (Array.getElem?_eq_some_iff.1 ho).1
    clear hrest hsz hund
    obtain rfl | rfl : ix = 0 ∨ ix = 1 := by omega
    all_goals obtain rfl := Option.some.inj (show some _ = some ox from ho)
    ·
     refine wpOp_val (v := .pointer (some ⟨wx.heap.size, 0, none⟩)) (w' := wx.alloc (.cells #[.int .u64 a, .int .u64 b, .int .i64 c, .int .i64 d] 60)) rfl rfl ?_ ⟨_, rfl, trivial, hS.alloc 0 2 60 #[.int .u64 a, .int .u64 b, .int .i64 c, .int .i64 d] [] [] (none) #[] rfl rfl rfl (by rw [hs]; omega) trivial⟩
     · simp [execOp, Act.eval, t0, go_sem]
    ·
     exact wpOp_val (v := .bool false) (w' := wx) rfl rfl (by simp [execOp, Act.eval]) ⟨_, rfl, tab_put rfl hs rfl rfl, hS.same 1 rfl⟩
  intro a1 w1 fl d1 z1 rest1 R1 hfl hS
  obtain ⟨B1, n1, hBs, hAs, hPs⟩ := hS.finish hfl rfl
  replace d1 := d1.trans d0
  replace z1 := z1.trans z0
  obtain ⟨⟨g1, u_g1, q_g1, b_g1_1⟩, -⟩ := hAs
  replace u_g1 : a1.tmps.getD 2 undef = .pointer (some ⟨g1, 0, none⟩) := u_g1
  have m_g1 : W.heap.size ≤ g1 := q_g1
  replace q_g1 : W.heap.size ≤ g1 := Nat.le_trans B0.size q_g1
  have s1_1 := (rest1 1 (not_of (by kernel_rfl))).trans s1_0
  have s4_1 : a1.tmps.getD 4 undef = .bool false := R1 1 _ rfl
  clear R1 rest1 hS hfl hPs hBs
  clear s0_0 s1_0 d0 z0
  refine wp_seq ?_
  cases fk1 : Pr.hasB ⟨a, b⟩ v
  case false =>
   have Ffk1 := Lib.hid fk1; clear fk1
   refine wp_regx (SX W w1.heap.size [⟨g1, 60, (cR a b c d), none, #[]⟩] []) (TabX [fun vx => vx = .agg #[.int .u64 a, .int .u64 b, .int .i64 c, .int .i64 d], fun vx => vx = .agg #[.int .u64 a, .int .u64 b], fun vx => vx = .int .u64 v, fun vx => vx = .bool false, fun vx => vx = .bool false, fun vx => vx = undef, fun vx => vx = undef, fun vx => vx = undef, fun vx => vx = undef, fun vx => vx = undef, fun vx => vx = .bool false, fun vx => vx = .bool false]) (by kernel_rfl) (back_of (by kernel_rfl)) (dst_of (by kernel_rfl)) (in_ofz (by kernel_rfl) z1) (fun fl w1 hfl hw => SX.start' hw B1 hfl rfl ⟨b_g1_1, trivial⟩) ?h2 ?_
   case h2 =>
     intro ix ox ax wx fl ho hS hfi clo hsz hrest hdone hund
     have t1 := (hrest 1 (not_of (by kernel_rfl))).trans s1_1
     have t2 := (hrest 2 (not_of (by kernel_rfl))).trans u_g1
     have hs : ax.tmps.size = 16 := hsz.trans z1
     have hi : ix < 12 := (Array.getElem?_eq_some_iff.1 ho).1
     clear hrest hsz hund
     obtain rfl | rfl | rfl | rfl | rfl | rfl | rfl | rfl | rfl | rfl | rfl | rfl : ix = 0 ∨ ix = 1 ∨ ix = 2 ∨ ix = 3 ∨ ix = 4 ∨ ix = 5 ∨ ix = 6 ∨ ix = 7 ∨ ix = 8 ∨ ix = 9 ∨ ix = 10 ∨ ix = 11 := by omega
     all_goals obtain rfl := Option.some.inj (show some _ = some ox from ho)
     ·
      have hr := hS.rowNi 0 rfl
      exact wpOp_val (v := .agg #[.int .u64 a, .int .u64 b, .int .i64 c, .int .i64 d]) (w' := wx) rfl rfl (exec_loadR 60 _ rfl g1 0 (show ax.eval (.tmp 2) = .pointer (some ⟨g1, 0, none⟩) from t2) hr [.int .u64 a, .int .u64 b, .int .i64 c, .int .i64 d] rfl _ Try.underlying60 rfl (by kernel_rfl)) ⟨_, rfl, tab_put rfl hs rfl rfl, hS.same 0 rfl⟩
     ·
      have s5 : ax.tmps.getD 5 undef = .agg #[.int .u64 a, .int .u64 b, .int .i64 c, .int .i64 d] := (hdone 0 _ rfl rfl).2 _ rfl
      refine wpOp_call (args := #[.agg #[.int .u64 a, .int .u64 b, .int .i64 c, .int .i64 d]]) rfl rfl (exec_call rfl rfl rfl (args1 (show ax.eval (.tmp 5) = .agg #[.int .u64 a, .int .u64 b, .int .i64 c, .int .i64 d] from s5)) Try.func61 (by decide +kernel) rfl) ?_
      · refine (unsigned_n a b c d wx).mono ?_
        rintro e w' ⟨rfl, b9⟩
        exact ⟨_, rfl, _, rfl, tab_put rfl hs rfl rfl, hS.quiet 1 rfl b9⟩
     ·
      exact wpOp_val (v := .int .u64 v) (w' := wx) rfl rfl (by simp [execOp, Act.eval, t1]) ⟨_, rfl, tab_put rfl hs rfl rfl, hS.same 2 rfl⟩
     ·
      have s6 : ax.tmps.getD 6 undef = .agg #[.int .u64 a, .int .u64 b] := (hdone 0 _ rfl rfl).2 _ rfl
      have s7 : ax.tmps.getD 7 undef = .int .u64 v := (hdone 1 _ rfl rfl).2 _ rfl
      refine wpOp_call (args := #[.agg #[.int .u64 a, .int .u64 b], .int .u64 v]) rfl rfl (exec_call rfl rfl rfl (args2 (show ax.eval (.tmp 6) = .agg #[.int .u64 a, .int .u64 b] from s6) (show ax.eval (.tmp 7) = .int .u64 v from s7)) Try.func82 (by decide +kernel) rfl) ?_
      · refine (hasU_n a b v wx).mono ?_
        rintro e w' ⟨rfl, b9⟩
        exact ⟨_, rfl, _, rfl, tab_put rfl hs rfl (congrArg Value.bool Ffk1.out), hS.quiet 3 rfl b9⟩
     ·
      have s8 : ax.tmps.getD 8 undef = .bool false := (hdone 0 _ rfl rfl).2 _ rfl
      exact wpOp_val (v := .bool false) (w' := wx) rfl rfl (by simp [execOp, Act.eval, s8]) ⟨_, rfl, tab_put rfl hs rfl rfl, hS.same 4 rfl⟩
     ·
      have hg : ax.tmps.getD 9 undef = .bool false := (hdone 0 _ rfl rfl).2 _ rfl
      exact wpOp_no rfl (wanted_no 4 9 false hg (by rw [hs]; omega) rfl rfl rfl rfl) ⟨_, rfl, tab_put rfl hs rfl rfl, hS.same 5 rfl⟩
     ·
      have hg : ax.tmps.getD 9 undef = .bool false := (hdone 1 _ rfl rfl).2 _ rfl
      exact wpOp_no rfl (wanted_no 4 9 false hg (by rw [hs]; omega) rfl rfl rfl rfl) ⟨_, rfl, tab_put rfl hs rfl rfl, hS.same 6 rfl⟩
     ·
      have hg : ax.tmps.getD 9 undef = .bool false := (hdone 0 _ rfl rfl).2 _ rfl
      exact wpOp_no rfl (wanted_no 4 9 false hg (by rw [hs]; omega) rfl rfl rfl rfl) ⟨_, rfl, tab_put rfl hs rfl rfl, hS.same 7 rfl⟩
     ·
      have hg : ax.tmps.getD 9 undef = .bool false := (hdone 1 _ rfl rfl).2 _ rfl
      exact wpOp_no rfl (wanted_no 4 9 false hg (by rw [hs]; omega) rfl rfl rfl rfl) ⟨_, rfl, tab_put rfl hs rfl rfl, hS.same 8 rfl⟩
     ·
      have hg : ax.tmps.getD 9 undef = .bool false := (hdone 3 _ rfl rfl).2 _ rfl
      exact wpOp_no rfl (wanted_no 4 9 false hg (by rw [hs]; omega) rfl rfl rfl rfl) ⟨_, rfl, tab_put rfl hs rfl rfl, hS.same 9 rfl⟩
     ·
      have s9 : ax.tmps.getD 9 undef = .bool false := (hdone 0 _ rfl rfl).2 _ rfl
      have s14 : ax.tmps.getD 14 undef = undef := (hdone 1 _ rfl rfl).2 _ rfl
      exact wpOp_val (v := .bool false) (w' := wx) rfl rfl (by simp [execOp, Act.eval, s9, s14, go_sem]) ⟨_, rfl, tab_put rfl hs rfl rfl, hS.same 10 rfl⟩
     ·
      have s15 : ax.tmps.getD 15 undef = .bool false := (hdone 0 _ rfl rfl).2 _ rfl
      exact wpOp_val (v := .bool false) (w' := wx) rfl rfl (by simp [execOp, Act.eval, s15]) ⟨_, rfl, tab_put rfl hs rfl rfl, hS.same 11 rfl⟩
   intro a2 w2 fl d2 z2 rest2 R2 hfl hS
   obtain ⟨B2, n2, hBs, hAs, hPs⟩ := hS.finish hfl rfl
   replace d2 := d2.trans d1
   replace z2 := z2.trans z1
   obtain ⟨⟨l_g1_2, b_g1_2⟩, -⟩ := hBs
   replace l_g1_2 : g1 < w1.heap.size := l_g1_2
   have s4_2 : a2.tmps.getD 4 undef = .bool false := R2 11 _ rfl
   clear R2 rest2 hS hfl hPs hAs
   clear u_g1 s1_1 s4_1 b_g1_1 d1 z1
   refine wp_ret ?_
   try simp only [Exit.inBlock, Exit.then]
   refine bodyPost_ret (res_t (fn := Try.f36) rfl s4_2) d2 ?_
   have HE : Value.bool false = .bool (Rg.hasB ⟨⟨a, b⟩, ⟨c, d⟩⟩ v) := by show _ = Value.bool (Pr.hasB ⟨a, b⟩ v && Pr.hasB ⟨c, d⟩ (sg v)); rw [Ffk1.out]; rfl
   exact ⟨retV HE, B2⟩
  have Ffk1 := Lib.hid fk1; clear fk1
  cases fk2 : Pr.hasB ⟨c, d⟩ (sg v)
  case false =>
   have Ffk2 := Lib.hid fk2; clear fk2
   refine wp_regx (SX W w1.heap.size [⟨g1, 60, (cR a b c d), none, #[]⟩] []) (TabX [fun vx => vx = .agg #[.int .u64 a, .int .u64 b, .int .i64 c, .int .i64 d], fun vx => vx = .agg #[.int .u64 a, .int .u64 b], fun vx => vx = .int .u64 v, fun vx => vx = .bool true, fun vx => vx = .bool true, fun vx => vx = .agg #[.int .u64 a, .int .u64 b, .int .i64 c, .int .i64 d], fun vx => vx = .agg #[.int .i64 c, .int .i64 d], fun vx => vx = .int .u64 v, fun vx => vx = .int .i64 (sg v), fun vx => vx = .bool false, fun vx => vx = .bool false, fun vx => vx = .bool false]) (by kernel_rfl) (back_of (by kernel_rfl)) (dst_of (by kernel_rfl)) (in_ofz (by kernel_rfl) z1) (fun fl w1 hfl hw => SX.start' hw B1 hfl rfl ⟨b_g1_1, trivial⟩) ?h3 ?_
   case h3 =>
     intro ix ox ax wx fl ho hS hfi clo hsz hrest hdone hund
     have t1 := (hrest 1 (not_of (by kernel_rfl))).trans s1_1
     have t2 := (hrest 2 (not_of (by kernel_rfl))).trans u_g1
     have hs : ax.tmps.size = 16 := hsz.trans z1
     have hi : ix < 12 := (Array.getElem?_eq_some_iff.1 ho).1
     clear hrest hsz hund
     obtain rfl | rfl | rfl | rfl | rfl | rfl | rfl | rfl | rfl | rfl | rfl | rfl : ix = 0 ∨ ix = 1 ∨ ix = 2 ∨ ix = 3 ∨ ix = 4 ∨ ix = 5 ∨ ix = 6 ∨ ix = 7 ∨ ix = 8 ∨ ix = 9 ∨ ix = 10 ∨ ix = 11 := by omega
     all_goals obtain rfl := Option.some.inj (show some _ = some ox from ho)
     ·
      have hr := hS.rowNi 0 rfl
      exact wpOp_val (v := .agg #[.int .u64 a, .int .u64 b, .int .i64 c, .int .i64 d]) (w' := wx) rfl rfl (exec_loadR 60 _ rfl g1 0 (show ax.eval (.tmp 2) = .pointer (some ⟨g1, 0, none⟩) from t2) hr [.int .u64 a, .int .u64 b, .int .i64 c, .int .i64 d] rfl _ Try.underlying60 rfl (by kernel_rfl)) ⟨_, rfl, tab_put rfl hs rfl rfl, hS.same 0 rfl⟩
     ·
      have s5 : ax.tmps.getD 5 undef = .agg #[.int .u64 a, .int .u64 b, .int .i64 c, .int .i64 d] := (hdone 0 _ rfl rfl).2 _ rfl
      refine wpOp_call (args := #[.agg #[.int .u64 a, .int .u64 b, .int .i64 c, .int .i64 d]]) rfl rfl (exec_call rfl rfl rfl (args1 (show ax.eval (.tmp 5) = .agg #[.int .u64 a, .int .u64 b, .int .i64 c, .int .i64 d] from s5)) Try.func61 (by decide +kernel) rfl) ?_
      · refine (unsigned_n a b c d wx).mono ?_
        rintro e w' ⟨rfl, b9⟩
        exact ⟨_, rfl, _, rfl, tab_put rfl hs rfl rfl, hS.quiet 1 rfl b9⟩
     ·
      exact wpOp_val (v := .int .u64 v) (w' := wx) rfl rfl (by simp [execOp, Act.eval, t1]) ⟨_, rfl, tab_put rfl hs rfl rfl, hS.same 2 rfl⟩
     ·
      have s6 : ax.tmps.getD 6 undef = .agg #[.int .u64 a, .int .u64 b] := (hdone 0 _ rfl rfl).2 _ rfl
      have s7 : ax.tmps.getD 7 undef = .int .u64 v := (hdone 1 _ rfl rfl).2 _ rfl
      refine wpOp_call (args := #[.agg #[.int .u64 a, .int .u64 b], .int .u64 v]) rfl rfl (exec_call rfl rfl rfl (args2 (show ax.eval (.tmp 6) = .agg #[.int .u64 a, .int .u64 b] from s6) (show ax.eval (.tmp 7) = .int .u64 v from s7)) Try.func82 (by decide +kernel) rfl) ?_
      · refine (hasU_n a b v wx).mono ?_
        rintro e w' ⟨rfl, b9⟩
        exact ⟨_, rfl, _, rfl, tab_put rfl hs rfl (congrArg Value.bool Ffk1.out), hS.quiet 3 rfl b9⟩
     ·
      have s8 : ax.tmps.getD 8 undef = .bool true := (hdone 0 _ rfl rfl).2 _ rfl
      exact wpOp_val (v := .bool true) (w' := wx) rfl rfl (by simp [execOp, Act.eval, s8]) ⟨_, rfl, tab_put rfl hs rfl rfl, hS.same 4 rfl⟩
     ·
      have hg : ax.tmps.getD 9 undef = .bool true := (hdone 0 _ rfl rfl).2 _ rfl
      have hr := hS.rowNi 0 rfl
      exact wpOp_valw (v := .agg #[.int .u64 a, .int .u64 b, .int .i64 c, .int .i64 d]) (w' := wx) rfl (wanted_yes 4 9 true hg (by rw [hs]; omega) rfl rfl rfl rfl) (exec_loadR 60 _ rfl g1 0 (show ax.eval (.tmp 2) = .pointer (some ⟨g1, 0, none⟩) from t2) hr [.int .u64 a, .int .u64 b, .int .i64 c, .int .i64 d] rfl _ Try.underlying60 rfl (by kernel_rfl)) ⟨_, rfl, tab_put rfl hs rfl rfl, hS.same 5 rfl⟩
     ·
      have hg : ax.tmps.getD 9 undef = .bool true := (hdone 1 _ rfl rfl).2 _ rfl
      have s10 : ax.tmps.getD 10 undef = .agg #[.int .u64 a, .int .u64 b, .int .i64 c, .int .i64 d] := (hdone 0 _ rfl rfl).2 _ rfl
      refine wpOp_callw (args := #[.agg #[.int .u64 a, .int .u64 b, .int .i64 c, .int .i64 d]]) rfl (wanted_yes 4 9 true hg (by rw [hs]; omega) rfl rfl rfl rfl) (exec_call rfl rfl rfl (args1 (show ax.eval (.tmp 10) = .agg #[.int .u64 a, .int .u64 b, .int .i64 c, .int .i64 d] from s10)) Try.func63 (by decide +kernel) rfl) ?_
      · refine (signed_n a b c d wx).mono ?_
        rintro e w' ⟨rfl, b9⟩
        exact ⟨_, rfl, _, rfl, tab_put rfl hs rfl rfl, hS.quiet 6 rfl b9⟩
     ·
      have hg : ax.tmps.getD 9 undef = .bool true := (hdone 0 _ rfl rfl).2 _ rfl
      exact wpOp_valw (v := .int .u64 v) (w' := wx) rfl (wanted_yes 4 9 true hg (by rw [hs]; omega) rfl rfl rfl rfl) (by simp [execOp, Act.eval, t1]) ⟨_, rfl, tab_put rfl hs rfl rfl, hS.same 7 rfl⟩
     ·
      have hg : ax.tmps.getD 9 undef = .bool true := (hdone 1 _ rfl rfl).2 _ rfl
      have s12 : ax.tmps.getD 12 undef = .int .u64 v := (hdone 0 _ rfl rfl).2 _ rfl
      exact wpOp_valw (v := .int .i64 (wrap64 v)) (w' := wx) rfl (wanted_yes 4 9 true hg (by rw [hs]; omega) rfl rfl rfl rfl) (by (simp [execOp, Act.eval, s12, go_sem]; try (simp only [IntKind.wrap_i64, wrap64]))) ⟨_, rfl, tab_put rfl hs rfl (congrArg (Value.int .i64) (wrap_sg v)), hS.same 8 rfl⟩
     ·
      have hg : ax.tmps.getD 9 undef = .bool true := (hdone 3 _ rfl rfl).2 _ rfl
      have s11 : ax.tmps.getD 11 undef = .agg #[.int .i64 c, .int .i64 d] := (hdone 0 _ rfl rfl).2 _ rfl
      have s13 : ax.tmps.getD 13 undef = .int .i64 (sg v) := (hdone 1 _ rfl rfl).2 _ rfl
      refine wpOp_callw (args := #[.agg #[.int .i64 c, .int .i64 d], .int .i64 (sg v)]) rfl (wanted_yes 4 9 true hg (by rw [hs]; omega) rfl rfl rfl rfl) (exec_call rfl rfl rfl (args2 (show ax.eval (.tmp 11) = .agg #[.int .i64 c, .int .i64 d] from s11) (show ax.eval (.tmp 13) = .int .i64 (sg v) from s13)) Try.func83 (by decide +kernel) rfl) ?_
      · refine (hasS_n c d (sg v) wx).mono ?_
        rintro e w' ⟨rfl, b9⟩
        exact ⟨_, rfl, _, rfl, tab_put rfl hs rfl (congrArg Value.bool Ffk2.out), hS.quiet 9 rfl b9⟩
     ·
      have s9 : ax.tmps.getD 9 undef = .bool true := (hdone 0 _ rfl rfl).2 _ rfl
      have s14 : ax.tmps.getD 14 undef = .bool false := (hdone 1 _ rfl rfl).2 _ rfl
      exact wpOp_val (v := .bool false) (w' := wx) rfl rfl (by simp [execOp, Act.eval, s9, s14, go_sem]) ⟨_, rfl, tab_put rfl hs rfl rfl, hS.same 10 rfl⟩
     ·
      have s15 : ax.tmps.getD 15 undef = .bool false := (hdone 0 _ rfl rfl).2 _ rfl
      exact wpOp_val (v := .bool false) (w' := wx) rfl rfl (by simp [execOp, Act.eval, s15]) ⟨_, rfl, tab_put rfl hs rfl rfl, hS.same 11 rfl⟩
   intro a2 w2 fl d2 z2 rest2 R2 hfl hS
   obtain ⟨B2, n2, hBs, hAs, hPs⟩ := hS.finish hfl rfl
   replace d2 := d2.trans d1
   replace z2 := z2.trans z1
   obtain ⟨⟨l_g1_2, b_g1_2⟩, -⟩ := hBs
   replace l_g1_2 : g1 < w1.heap.size := l_g1_2
   have s4_2 : a2.tmps.getD 4 undef = .bool false := R2 11 _ rfl
   clear R2 rest2 hS hfl hPs hAs
   clear u_g1 s1_1 s4_1 b_g1_1 d1 z1
   refine wp_ret ?_
   try simp only [Exit.inBlock, Exit.then]
   refine bodyPost_ret (res_t (fn := Try.f36) rfl s4_2) d2 ?_
   have HE : Value.bool false = .bool (Rg.hasB ⟨⟨a, b⟩, ⟨c, d⟩⟩ v) := by show _ = Value.bool (Pr.hasB ⟨a, b⟩ v && Pr.hasB ⟨c, d⟩ (sg v)); rw [Ffk1.out, Ffk2.out]; rfl
   exact ⟨retV HE, B2⟩
  have Ffk2 := Lib.hid fk2; clear fk2
  refine wp_regx (SX W w1.heap.size [⟨g1, 60, (cR a b c d), none, #[]⟩] []) (TabX [fun vx => vx = .agg #[.int .u64 a, .int .u64 b, .int .i64 c, .int .i64 d], fun vx => vx = .agg #[.int .u64 a, .int .u64 b], fun vx => vx = .int .u64 v, fun vx => vx = .bool true, fun vx => vx = .bool true, fun vx => vx = .agg #[.int .u64 a, .int .u64 b, .int .i64 c, .int .i64 d], fun vx => vx = .agg #[.int .i64 c, .int .i64 d], fun vx => vx = .int .u64 v, fun vx => vx = .int .i64 (sg v), fun vx => vx = .bool true, fun vx => vx = .bool true, fun vx => vx = .bool true]) (by kernel_rfl) (back_of (by kernel_rfl)) (dst_of (by kernel_rfl)) (in_ofz (by kernel_rfl) z1) (fun fl w1 hfl hw => SX.start' hw B1 hfl rfl ⟨b_g1_1, trivial⟩) ?h4 ?_
  case h4 =>
    intro ix ox ax wx fl ho hS hfi clo hsz hrest hdone hund
    have t1 := (hrest 1 (not_of (by kernel_rfl))).trans s1_1
    have t2 := (hrest 2 (not_of (by kernel_rfl))).trans u_g1
    have hs : ax.tmps.size = 16 := hsz.trans z1
    have hi : ix < 12 := (Array.getElem?_eq_some_iff.1 ho).1
    clear hrest hsz hund
    obtain rfl | rfl | rfl | rfl | rfl | rfl | rfl | rfl | rfl | rfl | rfl | rfl : ix = 0 ∨ ix = 1 ∨ ix = 2 ∨ ix = 3 ∨ ix = 4 ∨ ix = 5 ∨ ix = 6 ∨ ix = 7 ∨ ix = 8 ∨ ix = 9 ∨ ix = 10 ∨ ix = 11 := by omega
    all_goals obtain rfl := Option.some.inj (show some _ = some ox from ho)
    ·
     have hr := hS.rowNi 0 rfl
     exact wpOp_val (v := .agg #[.int .u64 a, .int .u64 b, .int .i64 c, .int .i64 d]) (w' := wx) rfl rfl (exec_loadR 60 _ rfl g1 0 (show ax.eval (.tmp 2) = .pointer (some ⟨g1, 0, none⟩) from t2) hr [.int .u64 a, .int .u64 b, .int .i64 c, .int .i64 d] rfl _ Try.underlying60 rfl (by kernel_rfl)) ⟨_, rfl, tab_put rfl hs rfl rfl, hS.same 0 rfl⟩
    ·
     have s5 : ax.tmps.getD 5 undef = .agg #[.int .u64 a, .int .u64 b, .int .i64 c, .int .i64 d] := (hdone 0 _ rfl rfl).2 _ rfl
     refine wpOp_call (args := #[.agg #[.int .u64 a, .int .u64 b, .int .i64 c, .int .i64 d]]) rfl rfl (exec_call rfl rfl rfl (args1 (show ax.eval (.tmp 5) = .agg #[.int .u64 a, .int .u64 b, .int .i64 c, .int .i64 d] from s5)) Try.func61 (by decide +kernel) rfl) ?_
     · refine (unsigned_n a b c d wx).mono ?_
       rintro e w' ⟨rfl, b9⟩
       exact ⟨_, rfl, _, rfl, tab_put rfl hs rfl rfl, hS.quiet 1 rfl b9⟩
    ·
     exact wpOp_val (v := .int .u64 v) (w' := wx) rfl rfl (by simp [execOp, Act.eval, t1]) ⟨_, rfl, tab_put rfl hs rfl rfl, hS.same 2 rfl⟩
    ·
     have s6 : ax.tmps.getD 6 undef = .agg #[.int .u64 a, .int .u64 b] := (hdone 0 _ rfl rfl).2 _ rfl
     have s7 : ax.tmps.getD 7 undef = .int .u64 v := (hdone 1 _ rfl rfl).2 _ rfl
     refine wpOp_call (args := #[.agg #[.int .u64 a, .int .u64 b], .int .u64 v]) rfl rfl (exec_call rfl rfl rfl (args2 (show ax.eval (.tmp 6) = .agg #[.int .u64 a, .int .u64 b] from s6) (show ax.eval (.tmp 7) = .int .u64 v from s7)) Try.func82 (by decide +kernel) rfl) ?_
     · refine (hasU_n a b v wx).mono ?_
       rintro e w' ⟨rfl, b9⟩
       exact ⟨_, rfl, _, rfl, tab_put rfl hs rfl (congrArg Value.bool Ffk1.out), hS.quiet 3 rfl b9⟩
    ·
     have s8 : ax.tmps.getD 8 undef = .bool true := (hdone 0 _ rfl rfl).2 _ rfl
     exact wpOp_val (v := .bool true) (w' := wx) rfl rfl (by simp [execOp, Act.eval, s8]) ⟨_, rfl, tab_put rfl hs rfl rfl, hS.same 4 rfl⟩
    ·
     have hg : ax.tmps.getD 9 undef = .bool true := (hdone 0 _ rfl rfl).2 _ rfl
     have hr := hS.rowNi 0 rfl
     exact wpOp_valw (v := .agg #[.int .u64 a, .int .u64 b, .int .i64 c, .int .i64 d]) (w' := wx) rfl (wanted_yes 4 9 true hg (by rw [hs]; omega) rfl rfl rfl rfl) (exec_loadR 60 _ rfl g1 0 (show ax.eval (.tmp 2) = .pointer (some ⟨g1, 0, none⟩) from t2) hr [.int .u64 a, .int .u64 b, .int .i64 c, .int .i64 d] rfl _ Try.underlying60 rfl (by kernel_rfl)) ⟨_, rfl, tab_put rfl hs rfl rfl, hS.same 5 rfl⟩
    ·
     have hg : ax.tmps.getD 9 undef = .bool true := (hdone 1 _ rfl rfl).2 _ rfl
     have s10 : ax.tmps.getD 10 undef = .agg #[.int .u64 a, .int .u64 b, .int .i64 c, .int .i64 d] := (hdone 0 _ rfl rfl).2 _ rfl
     refine wpOp_callw (args := #[.agg #[.int .u64 a, .int .u64 b, .int .i64 c, .int .i64 d]]) rfl (wanted_yes 4 9 true hg (by rw [hs]; omega) rfl rfl rfl rfl) (exec_call rfl rfl rfl (args1 (show ax.eval (.tmp 10) = .agg #[.int .u64 a, .int .u64 b, .int .i64 c, .int .i64 d] from s10)) Try.func63 (by decide +kernel) rfl) ?_
     · refine (signed_n a b c d wx).mono ?_
       rintro e w' ⟨rfl, b9⟩
       exact ⟨_, rfl, _, rfl, tab_put rfl hs rfl rfl, hS.quiet 6 rfl b9⟩
    ·
     have hg : ax.tmps.getD 9 undef = .bool true := (hdone 0 _ rfl rfl).2 _ rfl
     exact wpOp_valw (v := .int .u64 v) (w' := wx) rfl (wanted_yes 4 9 true hg (by rw [hs]; omega) rfl rfl rfl rfl) (by simp [execOp, Act.eval, t1]) ⟨_, rfl, tab_put rfl hs rfl rfl, hS.same 7 rfl⟩
    ·
     have hg : ax.tmps.getD 9 undef = .bool true := (hdone 1 _ rfl rfl).2 _ rfl
     have s12 : ax.tmps.getD 12 undef = .int .u64 v := (hdone 0 _ rfl rfl).2 _ rfl
     exact wpOp_valw (v := .int .i64 (wrap64 v)) (w' := wx) rfl (wanted_yes 4 9 true hg (by rw [hs]; omega) rfl rfl rfl rfl) (by (simp [execOp, Act.eval, s12, go_sem]; try (simp only [IntKind.wrap_i64, wrap64]))) ⟨_, rfl, tab_put rfl hs rfl (congrArg (Value.int .i64) (wrap_sg v)), hS.same 8 rfl⟩
    ·
     have hg : ax.tmps.getD 9 undef = .bool true := (hdone 3 _ rfl rfl).2 _ rfl
     have s11 : ax.tmps.getD 11 undef = .agg #[.int .i64 c, .int .i64 d] := (hdone 0 _ rfl rfl).2 _ rfl
     have s13 : ax.tmps.getD 13 undef = .int .i64 (sg v) := (hdone 1 _ rfl rfl).2 _ rfl
     refine wpOp_callw (args := #[.agg #[.int .i64 c, .int .i64 d], .int .i64 (sg v)]) rfl (wanted_yes 4 9 true hg (by rw [hs]; omega) rfl rfl rfl rfl) (exec_call rfl rfl rfl (args2 (show ax.eval (.tmp 11) = .agg #[.int .i64 c, .int .i64 d] from s11) (show ax.eval (.tmp 13) = .int .i64 (sg v) from s13)) Try.func83 (by decide +kernel) rfl) ?_
     · refine (hasS_n c d (sg v) wx).mono ?_
       rintro e w' ⟨rfl, b9⟩
       exact ⟨_, rfl, _, rfl, tab_put rfl hs rfl (congrArg Value.bool Ffk2.out), hS.quiet 9 rfl b9⟩
    ·
     have s9 : ax.tmps.getD 9 undef = .bool true := (hdone 0 _ rfl rfl).2 _ rfl
     have s14 : ax.tmps.getD 14 undef = .bool true := (hdone 1 _ rfl rfl).2 _ rfl
     exact wpOp_val (v := .bool true) (w' := wx) rfl rfl (by simp [execOp, Act.eval, s9, s14, go_sem]) ⟨_, rfl, tab_put rfl hs rfl rfl, hS.same 10 rfl⟩
    ·
     have s15 : ax.tmps.getD 15 undef = .bool true := (hdone 0 _ rfl rfl).2 _ rfl
     exact wpOp_val (v := .bool true) (w' := wx) rfl rfl (by simp [execOp, Act.eval, s15]) ⟨_, rfl, tab_put rfl hs rfl rfl, hS.same 11 rfl⟩
  intro a2 w2 fl d2 z2 rest2 R2 hfl hS
  obtain ⟨B2, n2, hBs, hAs, hPs⟩ := hS.finish hfl rfl
  replace d2 := d2.trans d1
  replace z2 := z2.trans z1
  obtain ⟨⟨l_g1_2, b_g1_2⟩, -⟩ := hBs
  replace l_g1_2 : g1 < w1.heap.size := l_g1_2
  have s4_2 : a2.tmps.getD 4 undef = .bool true := R2 11 _ rfl
  clear R2 rest2 hS hfl hPs hAs
  clear u_g1 s1_1 s4_1 b_g1_1 d1 z1
  refine wp_ret ?_
  try simp only [Exit.inBlock, Exit.then]
  refine bodyPost_ret (res_t (fn := Try.f36) rfl s4_2) d2 ?_
  have HE : Value.bool true = .bool (Rg.hasB ⟨⟨a, b⟩, ⟨c, d⟩⟩ v) := by show _ = Value.bool (Pr.hasB ⟨a, b⟩ v && Pr.hasB ⟨c, d⟩ (sg v)); rw [Ffk1.out, Ffk2.out]; rfl
  exact ⟨retV HE, B2⟩
end Go.Proofs.Ytfededcmelhjjaa.Bnd
