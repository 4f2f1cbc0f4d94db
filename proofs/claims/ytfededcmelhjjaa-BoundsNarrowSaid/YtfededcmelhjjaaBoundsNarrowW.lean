/-
  The law BoundsNarrow. (Written by gen_bndd.py.)
-/
import Derived.Test.YtfededcmelhjjaaBndW
import Derived.Test.YtfededcmelhjjaaBndO
namespace Go.Proofs.Ytfededcmelhjjaa.Bnd
open Go.RowKit
set_option linter.unusedVariables false
set_option linter.unusedSimpArgs false
set_option linter.unnecessarySimpa false
set_option maxRecDepth 100000

set_option maxHeartbeats 4000000 in
theorem narrow_law (a b c d v : Int) (W : World) (ok : Rg.Ok ⟨⟨a, b⟩, ⟨c, d⟩⟩) (h0 : 0 ≤ v) (h1 : v < 18446744073709551616) : Calls Try.prog 10 #[.agg #[.int .u64 a, .int .u64 b, .int .i64 c, .int .i64 d], .int .u64 v] W fun e w' => e = .returned (.bool true) ∧ Below W.heap.size W w' := by
  have HO := Lib.hid ok
  have K1 : Hid (Rg.narB ⟨⟨a, b⟩, ⟨c, d⟩⟩ = false → Rg.hasB ⟨⟨a, b⟩, ⟨c, d⟩⟩ v = false) := Lib.hid (fun h => nar_no_has ok h0 h1 h)
  have K2 : Hid (Rg.narB ⟨⟨a, b⟩, ⟨c, d⟩⟩ = false → eqR (Rg.nar ⟨⟨a, b⟩, ⟨c, d⟩⟩) allR = true) := Lib.hid (fun h => by unfold Rg.nar; rw [h, if_neg (by decide)]; decide +kernel)
  have K3 : Hid (Rg.narB ⟨⟨a, b⟩, ⟨c, d⟩⟩ = true → Rg.mayB (Rg.nar ⟨⟨a, b⟩, ⟨c, d⟩⟩) = true) := Lib.hid (fun h => nar_may h)
  have K4 : Hid (Rg.narB ⟨⟨a, b⟩, ⟨c, d⟩⟩ = true → Rg.hasB (Rg.nar ⟨⟨a, b⟩, ⟨c, d⟩⟩) v = Rg.hasB ⟨⟨a, b⟩, ⟨c, d⟩⟩ v) := Lib.hid (fun h => nar_has ok h0 h1 h)
  have K5 : Hid (Rg.oneB (Rg.nar ⟨⟨a, b⟩, ⟨c, d⟩⟩) = true → Rg.hasB (Rg.nar ⟨⟨a, b⟩, ⟨c, d⟩⟩) v = (v == (Rg.oneV (Rg.nar ⟨⟨a, b⟩, ⟨c, d⟩⟩)))) := Lib.hid (fun h => one_iff' h)
  have HK := Lib.hid (ok_nar ok)
  clear ok h0 h1

  cases fv : Rg.hasB ⟨⟨a, b⟩, ⟨c, d⟩⟩ v
  · have FV := Lib.hid fv
    clear fv
    refine calls_abs Try.func10 rfl (Nat.le_of_ble_eq_true rfl) ?_
    intro a0 d0 z0 h0
    have z0 : a0.tmps.size = 60 := z0
    have s0_0 : a0.tmps.getD 0 undef = .agg #[.int .u64 a, .int .u64 b, .int .i64 c, .int .i64 d] := h0 0 (Nat.le_of_ble_eq_true rfl)
    have s1_0 : a0.tmps.getD 1 undef = .int .u64 v := h0 1 (Nat.le_of_ble_eq_true rfl)
    clear h0
    have B0 : Below W.heap.size W W := Below.refl _ _
    refine wp_seq ?_
    refine wp_regx (SX W W.heap.size [] [⟨0, 2, 60, (cR a b c d), none, #[]⟩]) (TabX [fun _ => True, fun vx => vx = .bool false]) (by kernel_rfl) (back_of (by kernel_rfl)) (dst_of (by kernel_rfl)) (in_ofz (by kernel_rfl) z0) (fun fl w1 hfl hw => SX.start' hw B0 hfl rfl trivial) ?h1 ?_
    case h1 =>
      intro ix ox ax wx fl ho hS hfi clo hsz hrest hdone hund
      have t0 := (hrest 0 (not_of (by kernel_rfl))).trans s0_0
      have hs : ax.tmps.size = 60 := hsz.trans z0
      have hi : ix < 2 := (Array.getElem?_eq_some_iff.1 ho).1
      clear hrest hsz hund
      obtain rfl | rfl : ix = 0 ∨ ix = 1 := by omega
      all_goals obtain rfl := Option.some.inj (show some _ = some ox from ho)
      ·
       refine wpOp_val (v := .pointer (some ⟨wx.heap.size, 0, none⟩)) (w' := wx.alloc (.cells #[.int .u64 a, .int .u64 b, .int .i64 c, .int .i64 d] 60)) rfl rfl ?_ ⟨_, rfl, trivial, hS.alloc 0 2 60 #[.int .u64 a, .int .u64 b, .int .i64 c, .int .i64 d] [] [] (none) #[] rfl rfl rfl (by rw [hs]; omega) trivial⟩
       · simp [execOp, Act.eval, t0, go_sem]
      ·
       exact wpOp_val (v := .bool false) (w' := wx) rfl rfl (by simp [execOp, Act.eval]) ⟨_, rfl, tab_put rfl hs rfl rfl, hS.same 1 rfl⟩
    intro a1 w1 fl d1 z1 rest1 R1 hfl hS
    obtain ⟨B1, n1, hBs, hAs, hPs⟩ := hS.finish hfl rfl
    replace d1 := d1.trans d0
    replace z1 := z1.trans z0
    obtain ⟨⟨g1, u_g1, q_g1, b_g1_1⟩, -⟩ := hAs
    replace u_g1 : a1.tmps.getD 2 undef = .pointer (some ⟨g1, 0, none⟩) := u_g1
    have m_g1 : W.heap.size ≤ g1 := q_g1
    replace q_g1 : W.heap.size ≤ g1 := Nat.le_trans B0.size q_g1
    have s1_1 := (rest1 1 (not_of (by kernel_rfl))).trans s1_0
    have s4_1 : a1.tmps.getD 4 undef = .bool false := R1 1 _ rfl
    clear R1 rest1 hS hfl hPs hBs
    clear s0_0 s1_0 d0 z0
    refine wp_seq ?_
    cases fk1 : Rg.narB ⟨⟨a, b⟩, ⟨c, d⟩⟩
    case false =>
     have Ffk1 := Lib.hid fk1; clear fk1
     refine wp_regx (SX W w1.heap.size [⟨g1, 60, (cR a b c d), none, #[]⟩] [⟨5, 5, 60, (cR 0 0 0 0), some 6, (cR ((Rg.nar ⟨⟨a, b⟩, ⟨c, d⟩⟩).u.lo) ((Rg.nar ⟨⟨a, b⟩, ⟨c, d⟩⟩).u.hi) ((Rg.nar ⟨⟨a, b⟩, ⟨c, d⟩⟩).s.lo) ((Rg.nar ⟨⟨a, b⟩, ⟨c, d⟩⟩).s.hi))⟩]) (TabX [fun vx => vx = .agg #[.int .u64 a, .int .u64 b, .int .i64 c, .int .i64 d], fun vx => vx = .tuple #[.agg #[.int .u64 ((Rg.nar ⟨⟨a, b⟩, ⟨c, d⟩⟩).u.lo), .int .u64 ((Rg.nar ⟨⟨a, b⟩, ⟨c, d⟩⟩).u.hi), .int .i64 ((Rg.nar ⟨⟨a, b⟩, ⟨c, d⟩⟩).s.lo), .int .i64 ((Rg.nar ⟨⟨a, b⟩, ⟨c, d⟩⟩).s.hi)], .bool (Rg.narB ⟨⟨a, b⟩, ⟨c, d⟩⟩)], fun vx => vx = .tuple #[.agg #[.int .u64 ((Rg.nar ⟨⟨a, b⟩, ⟨c, d⟩⟩).u.lo), .int .u64 ((Rg.nar ⟨⟨a, b⟩, ⟨c, d⟩⟩).u.hi), .int .i64 ((Rg.nar ⟨⟨a, b⟩, ⟨c, d⟩⟩).s.lo), .int .i64 ((Rg.nar ⟨⟨a, b⟩, ⟨c, d⟩⟩).s.hi)], .bool (Rg.narB ⟨⟨a, b⟩, ⟨c, d⟩⟩)], fun vx => vx = .agg #[.int .u64 ((Rg.nar ⟨⟨a, b⟩, ⟨c, d⟩⟩).u.lo), .int .u64 ((Rg.nar ⟨⟨a, b⟩, ⟨c, d⟩⟩).u.hi), .int .i64 ((Rg.nar ⟨⟨a, b⟩, ⟨c, d⟩⟩).s.lo), .int .i64 ((Rg.nar ⟨⟨a, b⟩, ⟨c, d⟩⟩).s.hi)], fun vx => vx = .bool false, fun _ => True, fun _ => True, fun vx => vx = .bool false]) (by kernel_rfl) (back_of (by kernel_rfl)) (dst_of (by kernel_rfl)) (in_ofz (by kernel_rfl) z1) (fun fl w1 hfl hw => SX.start' hw B1 hfl rfl ⟨b_g1_1, trivial⟩) ?h2 ?_
     case h2 =>
       intro ix ox ax wx fl ho hS hfi clo hsz hrest hdone hund
       have t2 := (hrest 2 (not_of (by kernel_rfl))).trans u_g1
       have hs : ax.tmps.size = 60 := hsz.trans z1
       have hi : ix < 8 := (Array.getElem?_eq_some_iff.1 ho).1
       clear hrest hsz hund
       obtain rfl | rfl | rfl | rfl | rfl | rfl | rfl | rfl : ix = 0 ∨ ix = 1 ∨ ix = 2 ∨ ix = 3 ∨ ix = 4 ∨ ix = 5 ∨ ix = 6 ∨ ix = 7 := by omega
       all_goals obtain rfl := Option.some.inj (show some _ = some ox from ho)
       ·
        have hr := hS.rowNi 0 rfl
        exact wpOp_val (v := .agg #[.int .u64 a, .int .u64 b, .int .i64 c, .int .i64 d]) (w' := wx) rfl rfl (exec_loadR 60 _ rfl g1 0 (show ax.eval (.tmp 2) = .pointer (some ⟨g1, 0, none⟩) from t2) hr [.int .u64 a, .int .u64 b, .int .i64 c, .int .i64 d] rfl _ Try.underlying60 rfl (by kernel_rfl)) ⟨_, rfl, tab_put rfl hs rfl rfl, hS.same 0 rfl⟩
       ·
        have s10 : ax.tmps.getD 10 undef = .agg #[.int .u64 a, .int .u64 b, .int .i64 c, .int .i64 d] := (hdone 0 _ rfl rfl).2 _ rfl
        refine wpOp_call (args := #[.agg #[.int .u64 a, .int .u64 b, .int .i64 c, .int .i64 d]]) rfl rfl (exec_call rfl rfl rfl (args1 (show ax.eval (.tmp 10) = .agg #[.int .u64 a, .int .u64 b, .int .i64 c, .int .i64 d] from s10)) Try.func28 (by decide +kernel) rfl) ?_
        · refine (narrow_n a b c d wx HO.out).mono ?_
          rintro e w' ⟨rfl, b9⟩
          exact ⟨_, rfl, _, rfl, tab_put rfl hs rfl rfl, hS.quiet 1 rfl b9⟩
       ·
        have s11 : ax.tmps.getD 11 undef = .tuple #[.agg #[.int .u64 ((Rg.nar ⟨⟨a, b⟩, ⟨c, d⟩⟩).u.lo), .int .u64 ((Rg.nar ⟨⟨a, b⟩, ⟨c, d⟩⟩).u.hi), .int .i64 ((Rg.nar ⟨⟨a, b⟩, ⟨c, d⟩⟩).s.lo), .int .i64 ((Rg.nar ⟨⟨a, b⟩, ⟨c, d⟩⟩).s.hi)], .bool (Rg.narB ⟨⟨a, b⟩, ⟨c, d⟩⟩)] := (hdone 0 _ rfl rfl).2 _ rfl
        exact wpOp_val (v := .tuple #[.agg #[.int .u64 ((Rg.nar ⟨⟨a, b⟩, ⟨c, d⟩⟩).u.lo), .int .u64 ((Rg.nar ⟨⟨a, b⟩, ⟨c, d⟩⟩).u.hi), .int .i64 ((Rg.nar ⟨⟨a, b⟩, ⟨c, d⟩⟩).s.lo), .int .i64 ((Rg.nar ⟨⟨a, b⟩, ⟨c, d⟩⟩).s.hi)], .bool (Rg.narB ⟨⟨a, b⟩, ⟨c, d⟩⟩)]) (w' := wx) rfl rfl (by (revert s11; generalize (.tuple #[.agg #[.int .u64 ((Rg.nar ⟨⟨a, b⟩, ⟨c, d⟩⟩).u.lo), .int .u64 ((Rg.nar ⟨⟨a, b⟩, ⟨c, d⟩⟩).u.hi), .int .i64 ((Rg.nar ⟨⟨a, b⟩, ⟨c, d⟩⟩).s.lo), .int .i64 ((Rg.nar ⟨⟨a, b⟩, ⟨c, d⟩⟩).s.hi)], .bool (Rg.narB ⟨⟨a, b⟩, ⟨c, d⟩⟩)] : Value) = y0; intro s11); simp [execOp, Act.eval, s11]) ⟨_, rfl, tab_put rfl hs rfl rfl, hS.same 2 rfl⟩
       ·
        have s9 : ax.tmps.getD 9 undef = .tuple #[.agg #[.int .u64 ((Rg.nar ⟨⟨a, b⟩, ⟨c, d⟩⟩).u.lo), .int .u64 ((Rg.nar ⟨⟨a, b⟩, ⟨c, d⟩⟩).u.hi), .int .i64 ((Rg.nar ⟨⟨a, b⟩, ⟨c, d⟩⟩).s.lo), .int .i64 ((Rg.nar ⟨⟨a, b⟩, ⟨c, d⟩⟩).s.hi)], .bool (Rg.narB ⟨⟨a, b⟩, ⟨c, d⟩⟩)] := (hdone 0 _ rfl rfl).2 _ rfl
        exact wpOp_val (v := .agg #[.int .u64 ((Rg.nar ⟨⟨a, b⟩, ⟨c, d⟩⟩).u.lo), .int .u64 ((Rg.nar ⟨⟨a, b⟩, ⟨c, d⟩⟩).u.hi), .int .i64 ((Rg.nar ⟨⟨a, b⟩, ⟨c, d⟩⟩).s.lo), .int .i64 ((Rg.nar ⟨⟨a, b⟩, ⟨c, d⟩⟩).s.hi)]) (w' := wx) rfl rfl (by simp [execOp, Act.eval, s9, go_sem]) ⟨_, rfl, tab_put rfl hs rfl rfl, hS.same 3 rfl⟩
       ·
        have s9 : ax.tmps.getD 9 undef = .tuple #[.agg #[.int .u64 ((Rg.nar ⟨⟨a, b⟩, ⟨c, d⟩⟩).u.lo), .int .u64 ((Rg.nar ⟨⟨a, b⟩, ⟨c, d⟩⟩).u.hi), .int .i64 ((Rg.nar ⟨⟨a, b⟩, ⟨c, d⟩⟩).s.lo), .int .i64 ((Rg.nar ⟨⟨a, b⟩, ⟨c, d⟩⟩).s.hi)], .bool (Rg.narB ⟨⟨a, b⟩, ⟨c, d⟩⟩)] := (hdone 0 _ rfl rfl).2 _ rfl
        exact wpOp_val (v := .bool (Rg.narB ⟨⟨a, b⟩, ⟨c, d⟩⟩)) (w' := wx) rfl rfl (by simp [execOp, Act.eval, s9, go_sem]) ⟨_, rfl, tab_put rfl hs rfl (congrArg Value.bool Ffk1.out), hS.same 4 rfl⟩
       ·
        refine wpOp_val (v := .pointer (some ⟨wx.heap.size, 0, none⟩)) (w' := wx.alloc (.cells #[.int .u64 0, .int .u64 0, .int .i64 0, .int .i64 0] 60)) rfl rfl ?_ ⟨_, rfl, trivial, hS.alloc 5 5 60 #[.int .u64 0, .int .u64 0, .int .i64 0, .int .i64 0] [] [] (some 6) #[.int .u64 ((Rg.nar ⟨⟨a, b⟩, ⟨c, d⟩⟩).u.lo), .int .u64 ((Rg.nar ⟨⟨a, b⟩, ⟨c, d⟩⟩).u.hi), .int .i64 ((Rg.nar ⟨⟨a, b⟩, ⟨c, d⟩⟩).s.lo), .int .i64 ((Rg.nar ⟨⟨a, b⟩, ⟨c, d⟩⟩).s.hi)] rfl rfl rfl (by rw [hs]; omega) (not_yet clo hfi (by kernel_rfl))⟩
        · simp [execOp, Act.eval, go_sem]
       ·
        have hd5 := (hdone 0 _ rfl rfl).1
        obtain ⟨g2, s5, n5, r5⟩ := SX.rowA hS [] [] 5 5 60 _ _ 6 rfl hd5 hfi
        have s5 : ax.tmps.getD 5 undef = .pointer (some ⟨g2, 0, none⟩) := s5
        have s12 : ax.tmps.getD 12 undef = .agg #[.int .u64 ((Rg.nar ⟨⟨a, b⟩, ⟨c, d⟩⟩).u.lo), .int .u64 ((Rg.nar ⟨⟨a, b⟩, ⟨c, d⟩⟩).u.hi), .int .i64 ((Rg.nar ⟨⟨a, b⟩, ⟨c, d⟩⟩).s.lo), .int .i64 ((Rg.nar ⟨⟨a, b⟩, ⟨c, d⟩⟩).s.hi)] := (hdone 1 _ rfl rfl).2 _ rfl
        have hr : wx.heap[g2]? = some (.cells #[.int .u64 0, .int .u64 0, .int .i64 0, .int .i64 0] 60 (0, 0)) := r5
        exact wpOp_skp (w' := wx.setRow g2 #[.int .u64 ((Rg.nar ⟨⟨a, b⟩, ⟨c, d⟩⟩).u.lo), .int .u64 ((Rg.nar ⟨⟨a, b⟩, ⟨c, d⟩⟩).u.hi), .int .i64 ((Rg.nar ⟨⟨a, b⟩, ⟨c, d⟩⟩).s.lo), .int .i64 ((Rg.nar ⟨⟨a, b⟩, ⟨c, d⟩⟩).s.hi)]) rfl rfl (exec_storeR 60 _ _ rfl g2 #[.int .u64 ((Rg.nar ⟨⟨a, b⟩, ⟨c, d⟩⟩).u.lo), .int .u64 ((Rg.nar ⟨⟨a, b⟩, ⟨c, d⟩⟩).u.hi), .int .i64 ((Rg.nar ⟨⟨a, b⟩, ⟨c, d⟩⟩).s.lo), .int .i64 ((Rg.nar ⟨⟨a, b⟩, ⟨c, d⟩⟩).s.hi)] (show ax.eval (.tmp 5) = .pointer (some ⟨g2, 0, none⟩) from s5) (show ax.eval (.tmp 12) = .agg #[.int .u64 ((Rg.nar ⟨⟨a, b⟩, ⟨c, d⟩⟩).u.lo), .int .u64 ((Rg.nar ⟨⟨a, b⟩, ⟨c, d⟩⟩).u.hi), .int .i64 ((Rg.nar ⟨⟨a, b⟩, ⟨c, d⟩⟩).s.lo), .int .i64 ((Rg.nar ⟨⟨a, b⟩, ⟨c, d⟩⟩).s.hi)] from s12) hr (by kernel_rfl) rfl (by simp [Value.oneCell'])) ⟨undef, rfl, trivial, hS.storeA 6 5 5 60 #[.int .u64 0, .int .u64 0, .int .i64 0, .int .i64 0] #[.int .u64 ((Rg.nar ⟨⟨a, b⟩, ⟨c, d⟩⟩).u.lo), .int .u64 ((Rg.nar ⟨⟨a, b⟩, ⟨c, d⟩⟩).u.hi), .int .i64 ((Rg.nar ⟨⟨a, b⟩, ⟨c, d⟩⟩).s.lo), .int .i64 ((Rg.nar ⟨⟨a, b⟩, ⟨c, d⟩⟩).s.hi)] [] [] rfl B1.size hd5 g2 s5 (by decide) rfl (stored_setRow wx g2 _ _ _ hr)⟩
       ·
        have s13 : ax.tmps.getD 13 undef = .bool false := (hdone 0 _ rfl rfl).2 _ rfl
        exact wpOp_val (v := .bool false) (w' := wx) rfl rfl (by simp [execOp, Act.eval, s13]) ⟨_, rfl, tab_put rfl hs rfl rfl, hS.same 7 rfl⟩
     intro a2 w2 fl d2 z2 rest2 R2 hfl hS
     obtain ⟨B2, n2, hBs, hAs, hPs⟩ := hS.finish hfl rfl
     replace d2 := d2.trans d1
     replace z2 := z2.trans z1
     obtain ⟨⟨l_g1_2, b_g1_2⟩, -⟩ := hBs
     replace l_g1_2 : g1 < w1.heap.size := l_g1_2
     obtain ⟨⟨g2, u_g2, q_g2, b_g2_2⟩, -⟩ := hAs
     replace u_g2 : a2.tmps.getD 5 undef = .pointer (some ⟨g2, 0, none⟩) := u_g2
     have m_g2 : w1.heap.size ≤ g2 := q_g2
     replace q_g2 : W.heap.size ≤ g2 := Nat.le_trans B1.size q_g2
     have s1_2 := (rest2 1 (not_of (by kernel_rfl))).trans s1_1
     have s2_2 := (rest2 2 (not_of (by kernel_rfl))).trans u_g1
     have s4_2 := (rest2 4 (not_of (by kernel_rfl))).trans s4_1
     have s6_2 : a2.tmps.getD 6 undef = .bool false := R2 7 _ rfl
     clear R2 rest2 hS hfl hPs
     clear u_g1 s1_1 s4_1 b_g1_1 d1 z1
     refine wp_seq ?_
     refine wp_seq ?_
     refine wp_regx (SX W w2.heap.size [⟨g1, 60, (cR a b c d), none, #[]⟩, ⟨g2, 60, (cR ((Rg.nar ⟨⟨a, b⟩, ⟨c, d⟩⟩).u.lo) ((Rg.nar ⟨⟨a, b⟩, ⟨c, d⟩⟩).u.hi) ((Rg.nar ⟨⟨a, b⟩, ⟨c, d⟩⟩).s.lo) ((Rg.nar ⟨⟨a, b⟩, ⟨c, d⟩⟩).s.hi)), none, #[]⟩] []) (TabX [fun vx => vx = .bool false, fun vx => vx = .bool true]) (by kernel_rfl) (back_of (by kernel_rfl)) (dst_of (by kernel_rfl)) (in_ofz (by kernel_rfl) z2) (fun fl w1 hfl hw => SX.start' hw B2 hfl rfl ⟨b_g1_2, b_g2_2, trivial⟩) ?h3 ?_
     case h3 =>
       intro ix ox ax wx fl ho hS hfi clo hsz hrest hdone hund
       have t6 := (hrest 6 (not_of (by kernel_rfl))).trans s6_2
       have hs : ax.tmps.size = 60 := hsz.trans z2
       have hi : ix < 2 := (Array.getElem?_eq_some_iff.1 ho).1
       clear hrest hsz hund
       obtain rfl | rfl : ix = 0 ∨ ix = 1 := by omega
       all_goals obtain rfl := Option.some.inj (show some _ = some ox from ho)
       ·
        exact wpOp_val (v := .bool false) (w' := wx) rfl rfl (by simp [execOp, Act.eval, t6]) ⟨_, rfl, tab_put rfl hs rfl rfl, hS.same 0 rfl⟩
       ·
        have s14 : ax.tmps.getD 14 undef = .bool false := (hdone 0 _ rfl rfl).2 _ rfl
        exact wpOp_val (v := .bool true) (w' := wx) rfl rfl (by simp [execOp, Act.eval, s14, go_sem]) ⟨_, rfl, tab_put rfl hs rfl rfl, hS.same 1 rfl⟩
     intro a3 w3 fl d3 z3 rest3 R3 hfl hS
     obtain ⟨B3, n3, hBs, hAs, hPs⟩ := hS.finish hfl rfl
     replace d3 := d3.trans d2
     replace z3 := z3.trans z2
     obtain ⟨⟨-, b_g1_3⟩, ⟨l_g2_3, b_g2_3⟩, -⟩ := hBs
     replace l_g2_3 : g2 < w2.heap.size := l_g2_3
     have s1_3 := (rest3 1 (not_of (by kernel_rfl))).trans s1_2
     have s2_3 := (rest3 2 (not_of (by kernel_rfl))).trans s2_2
     have s4_3 := (rest3 4 (not_of (by kernel_rfl))).trans s4_2
     have s5_3 := (rest3 5 (not_of (by kernel_rfl))).trans u_g2
     have s15_3 : a3.tmps.getD 15 undef = .bool true := R3 1 _ rfl
     clear R3 rest3 hS hfl hPs hAs
     clear u_g2 s1_2 s2_2 s4_2 s6_2 b_g1_2 b_g2_2 d2 z2
     refine wp_cond_true (show a3.tmps.getD 15 undef = .bool true from s15_3) ?_
     refine wp_seq ?_
     refine wp_regx (SX W w3.heap.size [⟨g1, 60, (cR a b c d), none, #[]⟩, ⟨g2, 60, (cR ((Rg.nar ⟨⟨a, b⟩, ⟨c, d⟩⟩).u.lo) ((Rg.nar ⟨⟨a, b⟩, ⟨c, d⟩⟩).u.hi) ((Rg.nar ⟨⟨a, b⟩, ⟨c, d⟩⟩).s.lo) ((Rg.nar ⟨⟨a, b⟩, ⟨c, d⟩⟩).s.hi)), none, #[]⟩] []) (TabX [fun vx => vx = .agg #[.int .u64 a, .int .u64 b, .int .i64 c, .int .i64 d], fun vx => vx = .int .u64 v, fun vx => vx = .bool false, fun vx => vx = .bool true, fun vx => vx = .bool true, fun vx => vx = .agg #[.int .u64 ((Rg.nar ⟨⟨a, b⟩, ⟨c, d⟩⟩).u.lo), .int .u64 ((Rg.nar ⟨⟨a, b⟩, ⟨c, d⟩⟩).u.hi), .int .i64 ((Rg.nar ⟨⟨a, b⟩, ⟨c, d⟩⟩).s.lo), .int .i64 ((Rg.nar ⟨⟨a, b⟩, ⟨c, d⟩⟩).s.hi)], fun vx => vx = .agg #[.int .u64 allR.u.lo, .int .u64 allR.u.hi, .int .i64 allR.s.lo, .int .i64 allR.s.hi], fun vx => vx = .bool (eqR (Rg.nar ⟨⟨a, b⟩, ⟨c, d⟩⟩) allR), fun vx => vx = .bool true, fun vx => vx = .bool true, fun vx => vx = .bool true, fun vx => vx = .bool true, fun vx => vx = .bool true]) (by kernel_rfl) (back_of (by kernel_rfl)) (dst_of (by kernel_rfl)) (in_ofz (by kernel_rfl) z3) (fun fl w1 hfl hw => SX.start' hw B3 hfl rfl ⟨b_g1_3, b_g2_3, trivial⟩) ?h4 ?_
     case h4 =>
       intro ix ox ax wx fl ho hS hfi clo hsz hrest hdone hund
       have t1 := (hrest 1 (not_of (by kernel_rfl))).trans s1_3
       have t2 := (hrest 2 (not_of (by kernel_rfl))).trans s2_3
       have t5 := (hrest 5 (not_of (by kernel_rfl))).trans s5_3
       have hs : ax.tmps.size = 60 := hsz.trans z3
       have hi : ix < 13 := (Array.getElem?_eq_some_iff.1 ho).1
       clear hrest hsz hund
       obtain rfl | rfl | rfl | rfl | rfl | rfl | rfl | rfl | rfl | rfl | rfl | rfl | rfl : ix = 0 ∨ ix = 1 ∨ ix = 2 ∨ ix = 3 ∨ ix = 4 ∨ ix = 5 ∨ ix = 6 ∨ ix = 7 ∨ ix = 8 ∨ ix = 9 ∨ ix = 10 ∨ ix = 11 ∨ ix = 12 := by omega
       all_goals obtain rfl := Option.some.inj (show some _ = some ox from ho)
       ·
        have hr := hS.rowNi 0 rfl
        exact wpOp_val (v := .agg #[.int .u64 a, .int .u64 b, .int .i64 c, .int .i64 d]) (w' := wx) rfl rfl (exec_loadR 60 _ rfl g1 0 (show ax.eval (.tmp 2) = .pointer (some ⟨g1, 0, none⟩) from t2) hr [.int .u64 a, .int .u64 b, .int .i64 c, .int .i64 d] rfl _ Try.underlying60 rfl (by kernel_rfl)) ⟨_, rfl, tab_put rfl hs rfl rfl, hS.same 0 rfl⟩
       ·
        exact wpOp_val (v := .int .u64 v) (w' := wx) rfl rfl (by simp [execOp, Act.eval, t1]) ⟨_, rfl, tab_put rfl hs rfl rfl, hS.same 1 rfl⟩
       ·
        have s16 : ax.tmps.getD 16 undef = .agg #[.int .u64 a, .int .u64 b, .int .i64 c, .int .i64 d] := (hdone 0 _ rfl rfl).2 _ rfl
        have s17 : ax.tmps.getD 17 undef = .int .u64 v := (hdone 1 _ rfl rfl).2 _ rfl
        refine wpOp_call (args := #[.agg #[.int .u64 a, .int .u64 b, .int .i64 c, .int .i64 d], .int .u64 v]) rfl rfl (exec_call rfl rfl rfl (args2 (show ax.eval (.tmp 16) = .agg #[.int .u64 a, .int .u64 b, .int .i64 c, .int .i64 d] from s16) (show ax.eval (.tmp 17) = .int .u64 v from s17)) Try.func36 (by decide +kernel) rfl) ?_
        · refine (has_n a b c d v wx).mono ?_
          rintro e w' ⟨rfl, b9⟩
          exact ⟨_, rfl, _, rfl, tab_put rfl hs rfl (congrArg Value.bool (K1.out Ffk1.out)), hS.quiet 2 rfl b9⟩
       ·
        have s18 : ax.tmps.getD 18 undef = .bool false := (hdone 0 _ rfl rfl).2 _ rfl
        exact wpOp_val (v := .bool true) (w' := wx) rfl rfl (by simp [execOp, Act.eval, s18, go_sem]) ⟨_, rfl, tab_put rfl hs rfl rfl, hS.same 3 rfl⟩
       ·
        have s19 : ax.tmps.getD 19 undef = .bool true := (hdone 0 _ rfl rfl).2 _ rfl
        exact wpOp_val (v := .bool true) (w' := wx) rfl rfl (by simp [execOp, Act.eval, s19]) ⟨_, rfl, tab_put rfl hs rfl rfl, hS.same 4 rfl⟩
       ·
        have hg : ax.tmps.getD 20 undef = .bool true := (hdone 0 _ rfl rfl).2 _ rfl
        have hr := hS.rowNi 1 rfl
        exact wpOp_valw (v := .agg #[.int .u64 ((Rg.nar ⟨⟨a, b⟩, ⟨c, d⟩⟩).u.lo), .int .u64 ((Rg.nar ⟨⟨a, b⟩, ⟨c, d⟩⟩).u.hi), .int .i64 ((Rg.nar ⟨⟨a, b⟩, ⟨c, d⟩⟩).s.lo), .int .i64 ((Rg.nar ⟨⟨a, b⟩, ⟨c, d⟩⟩).s.hi)]) (w' := wx) rfl (wanted_yes 4 20 true hg (by rw [hs]; omega) rfl rfl rfl rfl) (exec_loadR 60 _ rfl g2 0 (show ax.eval (.tmp 5) = .pointer (some ⟨g2, 0, none⟩) from t5) hr [.int .u64 ((Rg.nar ⟨⟨a, b⟩, ⟨c, d⟩⟩).u.lo), .int .u64 ((Rg.nar ⟨⟨a, b⟩, ⟨c, d⟩⟩).u.hi), .int .i64 ((Rg.nar ⟨⟨a, b⟩, ⟨c, d⟩⟩).s.lo), .int .i64 ((Rg.nar ⟨⟨a, b⟩, ⟨c, d⟩⟩).s.hi)] rfl _ Try.underlying60 rfl (by kernel_rfl)) ⟨_, rfl, tab_put rfl hs rfl rfl, hS.same 5 rfl⟩
       ·
        have hg : ax.tmps.getD 20 undef = .bool true := (hdone 0 _ rfl rfl).2 _ rfl
        refine wpOp_callw (args := #[]) rfl (wanted_yes 4 20 true hg (by rw [hs]; omega) rfl rfl rfl rfl) (exec_call rfl rfl rfl (args0 ) Try.func32 (by decide +kernel) rfl) ?_
        · refine (all_n wx).mono ?_
          rintro e w' ⟨rfl, b9⟩
          exact ⟨_, rfl, _, rfl, tab_put rfl hs rfl rfl, hS.quiet 6 rfl b9⟩
       ·
        have hg : ax.tmps.getD 20 undef = .bool true := (hdone 2 _ rfl rfl).2 _ rfl
        have s21 : ax.tmps.getD 21 undef = .agg #[.int .u64 ((Rg.nar ⟨⟨a, b⟩, ⟨c, d⟩⟩).u.lo), .int .u64 ((Rg.nar ⟨⟨a, b⟩, ⟨c, d⟩⟩).u.hi), .int .i64 ((Rg.nar ⟨⟨a, b⟩, ⟨c, d⟩⟩).s.lo), .int .i64 ((Rg.nar ⟨⟨a, b⟩, ⟨c, d⟩⟩).s.hi)] := (hdone 0 _ rfl rfl).2 _ rfl
        have s22 : ax.tmps.getD 22 undef = .agg #[.int .u64 allR.u.lo, .int .u64 allR.u.hi, .int .i64 allR.s.lo, .int .i64 allR.s.hi] := (hdone 1 _ rfl rfl).2 _ rfl
        exact wpOp_valw (v := .bool (eqR (Rg.nar ⟨⟨a, b⟩, ⟨c, d⟩⟩) allR)) (w' := wx) rfl (wanted_yes 4 20 true hg (by rw [hs]; omega) rfl rfl rfl rfl) (exec_eql rfl (show ax.eval (.tmp 21) = Rg.val (Rg.nar ⟨⟨a, b⟩, ⟨c, d⟩⟩) from s21) (show ax.eval (.tmp 22) = Rg.val allR from s22) (by kernel_rfl) (eq_range (Rg.nar ⟨⟨a, b⟩, ⟨c, d⟩⟩) allR wx)) ⟨_, rfl, tab_put rfl hs rfl rfl, hS.same 7 rfl⟩
       ·
        have s20 : ax.tmps.getD 20 undef = .bool true := (hdone 0 _ rfl rfl).2 _ rfl
        have s23 : ax.tmps.getD 23 undef = .bool (eqR (Rg.nar ⟨⟨a, b⟩, ⟨c, d⟩⟩) allR) := (hdone 1 _ rfl rfl).2 _ rfl
        exact wpOp_val (v := .bool (eqR (Rg.nar ⟨⟨a, b⟩, ⟨c, d⟩⟩) allR)) (w' := wx) rfl rfl (by simp [execOp, Act.eval, s20, s23, go_sem]) ⟨_, rfl, tab_put rfl hs rfl (congrArg Value.bool (K2.out Ffk1.out)), hS.same 8 rfl⟩
       ·
        have s24 : ax.tmps.getD 24 undef = .bool true := (hdone 0 _ rfl rfl).2 _ rfl
        exact wpOp_val (v := .bool true) (w' := wx) rfl rfl (by simp [execOp, Act.eval, s24]) ⟨_, rfl, tab_put rfl hs rfl rfl, hS.same 9 rfl⟩
       ·
        have hg : ax.tmps.getD 25 undef = .bool true := (hdone 0 _ rfl rfl).2 _ rfl
        refine wpOp_callw (args := #[]) rfl (wanted_yes 9 25 true hg (by rw [hs]; omega) rfl rfl rfl rfl) (exec_call rfl rfl rfl (args0 ) Try.func46 (by decide +kernel) rfl) ?_
        · refine (wakes_n wx).mono ?_
          rintro e w' ⟨rfl, b9⟩
          exact ⟨_, rfl, _, rfl, tab_put rfl hs rfl rfl, hS.quiet 10 rfl b9⟩
       ·
        have s25 : ax.tmps.getD 25 undef = .bool true := (hdone 0 _ rfl rfl).2 _ rfl
        have s26 : ax.tmps.getD 26 undef = .bool true := (hdone 1 _ rfl rfl).2 _ rfl
        exact wpOp_val (v := .bool true) (w' := wx) rfl rfl (by simp [execOp, Act.eval, s25, s26, go_sem]) ⟨_, rfl, tab_put rfl hs rfl rfl, hS.same 11 rfl⟩
       ·
        have s27 : ax.tmps.getD 27 undef = .bool true := (hdone 0 _ rfl rfl).2 _ rfl
        exact wpOp_val (v := .bool true) (w' := wx) rfl rfl (by simp [execOp, Act.eval, s27]) ⟨_, rfl, tab_put rfl hs rfl rfl, hS.same 12 rfl⟩
     intro a4 w4 fl d4 z4 rest4 R4 hfl hS
     obtain ⟨B4, n4, hBs, hAs, hPs⟩ := hS.finish hfl rfl
     replace d4 := d4.trans d3
     replace z4 := z4.trans z3
     obtain ⟨⟨-, b_g1_4⟩, ⟨-, b_g2_4⟩, -⟩ := hBs
     have s1_4 := (rest4 1 (not_of (by kernel_rfl))).trans s1_3
     have s2_4 := (rest4 2 (not_of (by kernel_rfl))).trans s2_3
     have s4_4 : a4.tmps.getD 4 undef = .bool true := R4 12 _ rfl
     have s5_4 := (rest4 5 (not_of (by kernel_rfl))).trans s5_3
     clear R4 rest4 hS hfl hPs hAs
     clear s1_3 s2_3 s4_3 s5_3 s15_3 b_g1_3 b_g2_3 d3 z3
     refine wp_ret ?_
     try simp only [Exit.inBlock, Exit.then]
     refine bodyPost_ret (res_t (fn := Try.f10) rfl s4_4) d4 ?_
     exact ⟨rfl, B4⟩
    have Ffk1 := Lib.hid fk1; clear fk1
    refine wp_regx (SX W w1.heap.size [⟨g1, 60, (cR a b c d), none, #[]⟩] [⟨5, 5, 60, (cR 0 0 0 0), some 6, (cR ((Rg.nar ⟨⟨a, b⟩, ⟨c, d⟩⟩).u.lo) ((Rg.nar ⟨⟨a, b⟩, ⟨c, d⟩⟩).u.hi) ((Rg.nar ⟨⟨a, b⟩, ⟨c, d⟩⟩).s.lo) ((Rg.nar ⟨⟨a, b⟩, ⟨c, d⟩⟩).s.hi))⟩]) (TabX [fun vx => vx = .agg #[.int .u64 a, .int .u64 b, .int .i64 c, .int .i64 d], fun vx => vx = .tuple #[.agg #[.int .u64 ((Rg.nar ⟨⟨a, b⟩, ⟨c, d⟩⟩).u.lo), .int .u64 ((Rg.nar ⟨⟨a, b⟩, ⟨c, d⟩⟩).u.hi), .int .i64 ((Rg.nar ⟨⟨a, b⟩, ⟨c, d⟩⟩).s.lo), .int .i64 ((Rg.nar ⟨⟨a, b⟩, ⟨c, d⟩⟩).s.hi)], .bool (Rg.narB ⟨⟨a, b⟩, ⟨c, d⟩⟩)], fun vx => vx = .tuple #[.agg #[.int .u64 ((Rg.nar ⟨⟨a, b⟩, ⟨c, d⟩⟩).u.lo), .int .u64 ((Rg.nar ⟨⟨a, b⟩, ⟨c, d⟩⟩).u.hi), .int .i64 ((Rg.nar ⟨⟨a, b⟩, ⟨c, d⟩⟩).s.lo), .int .i64 ((Rg.nar ⟨⟨a, b⟩, ⟨c, d⟩⟩).s.hi)], .bool (Rg.narB ⟨⟨a, b⟩, ⟨c, d⟩⟩)], fun vx => vx = .agg #[.int .u64 ((Rg.nar ⟨⟨a, b⟩, ⟨c, d⟩⟩).u.lo), .int .u64 ((Rg.nar ⟨⟨a, b⟩, ⟨c, d⟩⟩).u.hi), .int .i64 ((Rg.nar ⟨⟨a, b⟩, ⟨c, d⟩⟩).s.lo), .int .i64 ((Rg.nar ⟨⟨a, b⟩, ⟨c, d⟩⟩).s.hi)], fun vx => vx = .bool true, fun _ => True, fun _ => True, fun vx => vx = .bool true]) (by kernel_rfl) (back_of (by kernel_rfl)) (dst_of (by kernel_rfl)) (in_ofz (by kernel_rfl) z1) (fun fl w1 hfl hw => SX.start' hw B1 hfl rfl ⟨b_g1_1, trivial⟩) ?h5 ?_
    case h5 =>
      intro ix ox ax wx fl ho hS hfi clo hsz hrest hdone hund
      have t2 := (hrest 2 (not_of (by kernel_rfl))).trans u_g1
      have hs : ax.tmps.size = 60 := hsz.trans z1
      have hi : ix < 8 := (Array.getElem?_eq_some_iff.1 ho).1
      clear hrest hsz hund
      obtain rfl | rfl | rfl | rfl | rfl | rfl | rfl | rfl : ix = 0 ∨ ix = 1 ∨ ix = 2 ∨ ix = 3 ∨ ix = 4 ∨ ix = 5 ∨ ix = 6 ∨ ix = 7 := by omega
      all_goals obtain rfl := Option.some.inj (show some _ = some ox from ho)
      ·
       have hr := hS.rowNi 0 rfl
       exact wpOp_val (v := .agg #[.int .u64 a, .int .u64 b, .int .i64 c, .int .i64 d]) (w' := wx) rfl rfl (exec_loadR 60 _ rfl g1 0 (show ax.eval (.tmp 2) = .pointer (some ⟨g1, 0, none⟩) from t2) hr [.int .u64 a, .int .u64 b, .int .i64 c, .int .i64 d] rfl _ Try.underlying60 rfl (by kernel_rfl)) ⟨_, rfl, tab_put rfl hs rfl rfl, hS.same 0 rfl⟩
      ·
       have s10 : ax.tmps.getD 10 undef = .agg #[.int .u64 a, .int .u64 b, .int .i64 c, .int .i64 d] := (hdone 0 _ rfl rfl).2 _ rfl
       refine wpOp_call (args := #[.agg #[.int .u64 a, .int .u64 b, .int .i64 c, .int .i64 d]]) rfl rfl (exec_call rfl rfl rfl (args1 (show ax.eval (.tmp 10) = .agg #[.int .u64 a, .int .u64 b, .int .i64 c, .int .i64 d] from s10)) Try.func28 (by decide +kernel) rfl) ?_
       · refine (narrow_n a b c d wx HO.out).mono ?_
         rintro e w' ⟨rfl, b9⟩
         exact ⟨_, rfl, _, rfl, tab_put rfl hs rfl rfl, hS.quiet 1 rfl b9⟩
      ·
       have s11 : ax.tmps.getD 11 undef = .tuple #[.agg #[.int .u64 ((Rg.nar ⟨⟨a, b⟩, ⟨c, d⟩⟩).u.lo), .int .u64 ((Rg.nar ⟨⟨a, b⟩, ⟨c, d⟩⟩).u.hi), .int .i64 ((Rg.nar ⟨⟨a, b⟩, ⟨c, d⟩⟩).s.lo), .int .i64 ((Rg.nar ⟨⟨a, b⟩, ⟨c, d⟩⟩).s.hi)], .bool (Rg.narB ⟨⟨a, b⟩, ⟨c, d⟩⟩)] := (hdone 0 _ rfl rfl).2 _ rfl
       exact wpOp_val (v := .tuple #[.agg #[.int .u64 ((Rg.nar ⟨⟨a, b⟩, ⟨c, d⟩⟩).u.lo), .int .u64 ((Rg.nar ⟨⟨a, b⟩, ⟨c, d⟩⟩).u.hi), .int .i64 ((Rg.nar ⟨⟨a, b⟩, ⟨c, d⟩⟩).s.lo), .int .i64 ((Rg.nar ⟨⟨a, b⟩, ⟨c, d⟩⟩).s.hi)], .bool (Rg.narB ⟨⟨a, b⟩, ⟨c, d⟩⟩)]) (w' := wx) rfl rfl (by (revert s11; generalize (.tuple #[.agg #[.int .u64 ((Rg.nar ⟨⟨a, b⟩, ⟨c, d⟩⟩).u.lo), .int .u64 ((Rg.nar ⟨⟨a, b⟩, ⟨c, d⟩⟩).u.hi), .int .i64 ((Rg.nar ⟨⟨a, b⟩, ⟨c, d⟩⟩).s.lo), .int .i64 ((Rg.nar ⟨⟨a, b⟩, ⟨c, d⟩⟩).s.hi)], .bool (Rg.narB ⟨⟨a, b⟩, ⟨c, d⟩⟩)] : Value) = y0; intro s11); simp [execOp, Act.eval, s11]) ⟨_, rfl, tab_put rfl hs rfl rfl, hS.same 2 rfl⟩
      ·
       have s9 : ax.tmps.getD 9 undef = .tuple #[.agg #[.int .u64 ((Rg.nar ⟨⟨a, b⟩, ⟨c, d⟩⟩).u.lo), .int .u64 ((Rg.nar ⟨⟨a, b⟩, ⟨c, d⟩⟩).u.hi), .int .i64 ((Rg.nar ⟨⟨a, b⟩, ⟨c, d⟩⟩).s.lo), .int .i64 ((Rg.nar ⟨⟨a, b⟩, ⟨c, d⟩⟩).s.hi)], .bool (Rg.narB ⟨⟨a, b⟩, ⟨c, d⟩⟩)] := (hdone 0 _ rfl rfl).2 _ rfl
       exact wpOp_val (v := .agg #[.int .u64 ((Rg.nar ⟨⟨a, b⟩, ⟨c, d⟩⟩).u.lo), .int .u64 ((Rg.nar ⟨⟨a, b⟩, ⟨c, d⟩⟩).u.hi), .int .i64 ((Rg.nar ⟨⟨a, b⟩, ⟨c, d⟩⟩).s.lo), .int .i64 ((Rg.nar ⟨⟨a, b⟩, ⟨c, d⟩⟩).s.hi)]) (w' := wx) rfl rfl (by simp [execOp, Act.eval, s9, go_sem]) ⟨_, rfl, tab_put rfl hs rfl rfl, hS.same 3 rfl⟩
      ·
       have s9 : ax.tmps.getD 9 undef = .tuple #[.agg #[.int .u64 ((Rg.nar ⟨⟨a, b⟩, ⟨c, d⟩⟩).u.lo), .int .u64 ((Rg.nar ⟨⟨a, b⟩, ⟨c, d⟩⟩).u.hi), .int .i64 ((Rg.nar ⟨⟨a, b⟩, ⟨c, d⟩⟩).s.lo), .int .i64 ((Rg.nar ⟨⟨a, b⟩, ⟨c, d⟩⟩).s.hi)], .bool (Rg.narB ⟨⟨a, b⟩, ⟨c, d⟩⟩)] := (hdone 0 _ rfl rfl).2 _ rfl
       exact wpOp_val (v := .bool (Rg.narB ⟨⟨a, b⟩, ⟨c, d⟩⟩)) (w' := wx) rfl rfl (by simp [execOp, Act.eval, s9, go_sem]) ⟨_, rfl, tab_put rfl hs rfl (congrArg Value.bool Ffk1.out), hS.same 4 rfl⟩
      ·
       refine wpOp_val (v := .pointer (some ⟨wx.heap.size, 0, none⟩)) (w' := wx.alloc (.cells #[.int .u64 0, .int .u64 0, .int .i64 0, .int .i64 0] 60)) rfl rfl ?_ ⟨_, rfl, trivial, hS.alloc 5 5 60 #[.int .u64 0, .int .u64 0, .int .i64 0, .int .i64 0] [] [] (some 6) #[.int .u64 ((Rg.nar ⟨⟨a, b⟩, ⟨c, d⟩⟩).u.lo), .int .u64 ((Rg.nar ⟨⟨a, b⟩, ⟨c, d⟩⟩).u.hi), .int .i64 ((Rg.nar ⟨⟨a, b⟩, ⟨c, d⟩⟩).s.lo), .int .i64 ((Rg.nar ⟨⟨a, b⟩, ⟨c, d⟩⟩).s.hi)] rfl rfl rfl (by rw [hs]; omega) (not_yet clo hfi (by kernel_rfl))⟩
       · simp [execOp, Act.eval, go_sem]
      ·
       have hd5 := (hdone 0 _ rfl rfl).1
       obtain ⟨g2, s5, n5, r5⟩ := SX.rowA hS [] [] 5 5 60 _ _ 6 rfl hd5 hfi
       have s5 : ax.tmps.getD 5 undef = .pointer (some ⟨g2, 0, none⟩) := s5
       have s12 : ax.tmps.getD 12 undef = .agg #[.int .u64 ((Rg.nar ⟨⟨a, b⟩, ⟨c, d⟩⟩).u.lo), .int .u64 ((Rg.nar ⟨⟨a, b⟩, ⟨c, d⟩⟩).u.hi), .int .i64 ((Rg.nar ⟨⟨a, b⟩, ⟨c, d⟩⟩).s.lo), .int .i64 ((Rg.nar ⟨⟨a, b⟩, ⟨c, d⟩⟩).s.hi)] := (hdone 1 _ rfl rfl).2 _ rfl
       have hr : wx.heap[g2]? = some (.cells #[.int .u64 0, .int .u64 0, .int .i64 0, .int .i64 0] 60 (0, 0)) := r5
       exact wpOp_skp (w' := wx.setRow g2 #[.int .u64 ((Rg.nar ⟨⟨a, b⟩, ⟨c, d⟩⟩).u.lo), .int .u64 ((Rg.nar ⟨⟨a, b⟩, ⟨c, d⟩⟩).u.hi), .int .i64 ((Rg.nar ⟨⟨a, b⟩, ⟨c, d⟩⟩).s.lo), .int .i64 ((Rg.nar ⟨⟨a, b⟩, ⟨c, d⟩⟩).s.hi)]) rfl rfl (exec_storeR 60 _ _ rfl g2 #[.int .u64 ((Rg.nar ⟨⟨a, b⟩, ⟨c, d⟩⟩).u.lo), .int .u64 ((Rg.nar ⟨⟨a, b⟩, ⟨c, d⟩⟩).u.hi), .int .i64 ((Rg.nar ⟨⟨a, b⟩, ⟨c, d⟩⟩).s.lo), .int .i64 ((Rg.nar ⟨⟨a, b⟩, ⟨c, d⟩⟩).s.hi)] (show ax.eval (.tmp 5) = .pointer (some ⟨g2, 0, none⟩) from s5) (show ax.eval (.tmp 12) = .agg #[.int .u64 ((Rg.nar ⟨⟨a, b⟩, ⟨c, d⟩⟩).u.lo), .int .u64 ((Rg.nar ⟨⟨a, b⟩, ⟨c, d⟩⟩).u.hi), .int .i64 ((Rg.nar ⟨⟨a, b⟩, ⟨c, d⟩⟩).s.lo), .int .i64 ((Rg.nar ⟨⟨a, b⟩, ⟨c, d⟩⟩).s.hi)] from s12) hr (by kernel_rfl) rfl (by simp [Value.oneCell'])) ⟨undef, rfl, trivial, hS.storeA 6 5 5 60 #[.int .u64 0, .int .u64 0, .int .i64 0, .int .i64 0] #[.int .u64 ((Rg.nar ⟨⟨a, b⟩, ⟨c, d⟩⟩).u.lo), .int .u64 ((Rg.nar ⟨⟨a, b⟩, ⟨c, d⟩⟩).u.hi), .int .i64 ((Rg.nar ⟨⟨a, b⟩, ⟨c, d⟩⟩).s.lo), .int .i64 ((Rg.nar ⟨⟨a, b⟩, ⟨c, d⟩⟩).s.hi)] [] [] rfl B1.size hd5 g2 s5 (by decide) rfl (stored_setRow wx g2 _ _ _ hr)⟩
      ·
       have s13 : ax.tmps.getD 13 undef = .bool true := (hdone 0 _ rfl rfl).2 _ rfl
       exact wpOp_val (v := .bool true) (w' := wx) rfl rfl (by simp [execOp, Act.eval, s13]) ⟨_, rfl, tab_put rfl hs rfl rfl, hS.same 7 rfl⟩
    intro a2 w2 fl d2 z2 rest2 R2 hfl hS
    obtain ⟨B2, n2, hBs, hAs, hPs⟩ := hS.finish hfl rfl
    replace d2 := d2.trans d1
    replace z2 := z2.trans z1
    obtain ⟨⟨l_g1_2, b_g1_2⟩, -⟩ := hBs
    replace l_g1_2 : g1 < w1.heap.size := l_g1_2
    obtain ⟨⟨g2, u_g2, q_g2, b_g2_2⟩, -⟩ := hAs
    replace u_g2 : a2.tmps.getD 5 undef = .pointer (some ⟨g2, 0, none⟩) := u_g2
    have m_g2 : w1.heap.size ≤ g2 := q_g2
    replace q_g2 : W.heap.size ≤ g2 := Nat.le_trans B1.size q_g2
    have s1_2 := (rest2 1 (not_of (by kernel_rfl))).trans s1_1
    have s2_2 := (rest2 2 (not_of (by kernel_rfl))).trans u_g1
    have s4_2 := (rest2 4 (not_of (by kernel_rfl))).trans s4_1
    have s6_2 : a2.tmps.getD 6 undef = .bool true := R2 7 _ rfl
    clear R2 rest2 hS hfl hPs
    clear u_g1 s1_1 s4_1 b_g1_1 d1 z1
    refine wp_seq ?_
    refine wp_seq ?_
    refine wp_regx (SX W w2.heap.size [⟨g1, 60, (cR a b c d), none, #[]⟩, ⟨g2, 60, (cR ((Rg.nar ⟨⟨a, b⟩, ⟨c, d⟩⟩).u.lo) ((Rg.nar ⟨⟨a, b⟩, ⟨c, d⟩⟩).u.hi) ((Rg.nar ⟨⟨a, b⟩, ⟨c, d⟩⟩).s.lo) ((Rg.nar ⟨⟨a, b⟩, ⟨c, d⟩⟩).s.hi)), none, #[]⟩] []) (TabX [fun vx => vx = .bool true, fun vx => vx = .bool false]) (by kernel_rfl) (back_of (by kernel_rfl)) (dst_of (by kernel_rfl)) (in_ofz (by kernel_rfl) z2) (fun fl w1 hfl hw => SX.start' hw B2 hfl rfl ⟨b_g1_2, b_g2_2, trivial⟩) ?h6 ?_
    case h6 =>
      intro ix ox ax wx fl ho hS hfi clo hsz hrest hdone hund
      have t6 := (hrest 6 (not_of (by kernel_rfl))).trans s6_2
      have hs : ax.tmps.size = 60 := hsz.trans z2
      have hi : ix < 2 := (Array.getElem?_eq_some_iff.1 ho).1
      clear hrest hsz hund
      obtain rfl | rfl : ix = 0 ∨ ix = 1 := by omega
      all_goals obtain rfl := Option.some.inj (show some _ = some ox from ho)
      ·
       exact wpOp_val (v := .bool true) (w' := wx) rfl rfl (by simp [execOp, Act.eval, t6]) ⟨_, rfl, tab_put rfl hs rfl rfl, hS.same 0 rfl⟩
      ·
       have s14 : ax.tmps.getD 14 undef = .bool true := (hdone 0 _ rfl rfl).2 _ rfl
       exact wpOp_val (v := .bool false) (w' := wx) rfl rfl (by simp [execOp, Act.eval, s14, go_sem]) ⟨_, rfl, tab_put rfl hs rfl rfl, hS.same 1 rfl⟩
    intro a3 w3 fl d3 z3 rest3 R3 hfl hS
    obtain ⟨B3, n3, hBs, hAs, hPs⟩ := hS.finish hfl rfl
    replace d3 := d3.trans d2
    replace z3 := z3.trans z2
    obtain ⟨⟨-, b_g1_3⟩, ⟨l_g2_3, b_g2_3⟩, -⟩ := hBs
    replace l_g2_3 : g2 < w2.heap.size := l_g2_3
    have s1_3 := (rest3 1 (not_of (by kernel_rfl))).trans s1_2
    have s2_3 := (rest3 2 (not_of (by kernel_rfl))).trans s2_2
    have s4_3 := (rest3 4 (not_of (by kernel_rfl))).trans s4_2
    have s5_3 := (rest3 5 (not_of (by kernel_rfl))).trans u_g2
    have s15_3 : a3.tmps.getD 15 undef = .bool false := R3 1 _ rfl
    clear R3 rest3 hS hfl hPs hAs
    clear u_g2 s1_2 s2_2 s4_2 s6_2 b_g1_2 b_g2_2 d2 z2
    refine wp_cond_false (show a3.tmps.getD 15 undef = .bool false from s15_3) ?_
    refine wp_skip ?_
    refine wp_seq ?_
    cases fk2 : Rg.oneB (Rg.nar ⟨⟨a, b⟩, ⟨c, d⟩⟩)
    case false =>
     have Ffk2 := Lib.hid fk2; clear fk2
     refine wp_regx (SX W w3.heap.size [⟨g1, 60, (cR a b c d), none, #[]⟩, ⟨g2, 60, (cR ((Rg.nar ⟨⟨a, b⟩, ⟨c, d⟩⟩).u.lo) ((Rg.nar ⟨⟨a, b⟩, ⟨c, d⟩⟩).u.hi) ((Rg.nar ⟨⟨a, b⟩, ⟨c, d⟩⟩).s.lo) ((Rg.nar ⟨⟨a, b⟩, ⟨c, d⟩⟩).s.hi)), none, #[]⟩] []) (TabX [fun vx => vx = .agg #[.int .u64 ((Rg.nar ⟨⟨a, b⟩, ⟨c, d⟩⟩).u.lo), .int .u64 ((Rg.nar ⟨⟨a, b⟩, ⟨c, d⟩⟩).u.hi), .int .i64 ((Rg.nar ⟨⟨a, b⟩, ⟨c, d⟩⟩).s.lo), .int .i64 ((Rg.nar ⟨⟨a, b⟩, ⟨c, d⟩⟩).s.hi)], fun vx => vx = .tuple #[.int .u64 (Rg.oneV (Rg.nar ⟨⟨a, b⟩, ⟨c, d⟩⟩)), .bool (Rg.oneB (Rg.nar ⟨⟨a, b⟩, ⟨c, d⟩⟩))], fun vx => vx = .tuple #[.int .u64 (Rg.oneV (Rg.nar ⟨⟨a, b⟩, ⟨c, d⟩⟩)), .bool (Rg.oneB (Rg.nar ⟨⟨a, b⟩, ⟨c, d⟩⟩))], fun vx => vx = .int .u64 (Rg.oneV (Rg.nar ⟨⟨a, b⟩, ⟨c, d⟩⟩)), fun vx => vx = .bool false, fun vx => vx = .int .u64 (Rg.oneV (Rg.nar ⟨⟨a, b⟩, ⟨c, d⟩⟩)), fun vx => vx = .bool false]) (by kernel_rfl) (back_of (by kernel_rfl)) (dst_of (by kernel_rfl)) (in_ofz (by kernel_rfl) z3) (fun fl w1 hfl hw => SX.start' hw B3 hfl rfl ⟨b_g1_3, b_g2_3, trivial⟩) ?h7 ?_
     case h7 =>
       intro ix ox ax wx fl ho hS hfi clo hsz hrest hdone hund
       have t5 := (hrest 5 (not_of (by kernel_rfl))).trans s5_3
       have hs : ax.tmps.size = 60 := hsz.trans z3
       have hi : ix < 7 := (Array.getElem?_eq_some_iff.1 ho).1
       clear hrest hsz hund
       obtain rfl | rfl | rfl | rfl | rfl | rfl | rfl : ix = 0 ∨ ix = 1 ∨ ix = 2 ∨ ix = 3 ∨ ix = 4 ∨ ix = 5 ∨ ix = 6 := by omega
       all_goals obtain rfl := Option.some.inj (show some _ = some ox from ho)
       ·
        have hr := hS.rowNi 1 rfl
        exact wpOp_val (v := .agg #[.int .u64 ((Rg.nar ⟨⟨a, b⟩, ⟨c, d⟩⟩).u.lo), .int .u64 ((Rg.nar ⟨⟨a, b⟩, ⟨c, d⟩⟩).u.hi), .int .i64 ((Rg.nar ⟨⟨a, b⟩, ⟨c, d⟩⟩).s.lo), .int .i64 ((Rg.nar ⟨⟨a, b⟩, ⟨c, d⟩⟩).s.hi)]) (w' := wx) rfl rfl (exec_loadR 60 _ rfl g2 0 (show ax.eval (.tmp 5) = .pointer (some ⟨g2, 0, none⟩) from t5) hr [.int .u64 ((Rg.nar ⟨⟨a, b⟩, ⟨c, d⟩⟩).u.lo), .int .u64 ((Rg.nar ⟨⟨a, b⟩, ⟨c, d⟩⟩).u.hi), .int .i64 ((Rg.nar ⟨⟨a, b⟩, ⟨c, d⟩⟩).s.lo), .int .i64 ((Rg.nar ⟨⟨a, b⟩, ⟨c, d⟩⟩).s.hi)] rfl _ Try.underlying60 rfl (by kernel_rfl)) ⟨_, rfl, tab_put rfl hs rfl rfl, hS.same 0 rfl⟩
       ·
        have s29 : ax.tmps.getD 29 undef = .agg #[.int .u64 ((Rg.nar ⟨⟨a, b⟩, ⟨c, d⟩⟩).u.lo), .int .u64 ((Rg.nar ⟨⟨a, b⟩, ⟨c, d⟩⟩).u.hi), .int .i64 ((Rg.nar ⟨⟨a, b⟩, ⟨c, d⟩⟩).s.lo), .int .i64 ((Rg.nar ⟨⟨a, b⟩, ⟨c, d⟩⟩).s.hi)] := (hdone 0 _ rfl rfl).2 _ rfl
        refine wpOp_call (args := #[.agg #[.int .u64 ((Rg.nar ⟨⟨a, b⟩, ⟨c, d⟩⟩).u.lo), .int .u64 ((Rg.nar ⟨⟨a, b⟩, ⟨c, d⟩⟩).u.hi), .int .i64 ((Rg.nar ⟨⟨a, b⟩, ⟨c, d⟩⟩).s.lo), .int .i64 ((Rg.nar ⟨⟨a, b⟩, ⟨c, d⟩⟩).s.hi)]]) rfl rfl (exec_call rfl rfl rfl (args1 (show ax.eval (.tmp 29) = .agg #[.int .u64 ((Rg.nar ⟨⟨a, b⟩, ⟨c, d⟩⟩).u.lo), .int .u64 ((Rg.nar ⟨⟨a, b⟩, ⟨c, d⟩⟩).u.hi), .int .i64 ((Rg.nar ⟨⟨a, b⟩, ⟨c, d⟩⟩).s.lo), .int .i64 ((Rg.nar ⟨⟨a, b⟩, ⟨c, d⟩⟩).s.hi)] from s29)) Try.func26 (by decide +kernel) rfl) ?_
        · refine (single_n ((Rg.nar ⟨⟨a, b⟩, ⟨c, d⟩⟩).u.lo) ((Rg.nar ⟨⟨a, b⟩, ⟨c, d⟩⟩).u.hi) ((Rg.nar ⟨⟨a, b⟩, ⟨c, d⟩⟩).s.lo) ((Rg.nar ⟨⟨a, b⟩, ⟨c, d⟩⟩).s.hi) wx).mono ?_
          rintro e w' ⟨rfl, b9⟩
          exact ⟨_, rfl, _, rfl, tab_put rfl hs rfl rfl, hS.quiet 1 rfl b9⟩
       ·
        have s30 : ax.tmps.getD 30 undef = .tuple #[.int .u64 (Rg.oneV (Rg.nar ⟨⟨a, b⟩, ⟨c, d⟩⟩)), .bool (Rg.oneB (Rg.nar ⟨⟨a, b⟩, ⟨c, d⟩⟩))] := (hdone 0 _ rfl rfl).2 _ rfl
        exact wpOp_val (v := .tuple #[.int .u64 (Rg.oneV (Rg.nar ⟨⟨a, b⟩, ⟨c, d⟩⟩)), .bool (Rg.oneB (Rg.nar ⟨⟨a, b⟩, ⟨c, d⟩⟩))]) (w' := wx) rfl rfl (by (revert s30; generalize (.tuple #[.int .u64 (Rg.oneV (Rg.nar ⟨⟨a, b⟩, ⟨c, d⟩⟩)), .bool (Rg.oneB (Rg.nar ⟨⟨a, b⟩, ⟨c, d⟩⟩))] : Value) = y0; intro s30); simp [execOp, Act.eval, s30]) ⟨_, rfl, tab_put rfl hs rfl rfl, hS.same 2 rfl⟩
       ·
        have s28 : ax.tmps.getD 28 undef = .tuple #[.int .u64 (Rg.oneV (Rg.nar ⟨⟨a, b⟩, ⟨c, d⟩⟩)), .bool (Rg.oneB (Rg.nar ⟨⟨a, b⟩, ⟨c, d⟩⟩))] := (hdone 0 _ rfl rfl).2 _ rfl
        exact wpOp_val (v := .int .u64 (Rg.oneV (Rg.nar ⟨⟨a, b⟩, ⟨c, d⟩⟩))) (w' := wx) rfl rfl (by simp [execOp, Act.eval, s28, go_sem]) ⟨_, rfl, tab_put rfl hs rfl rfl, hS.same 3 rfl⟩
       ·
        have s28 : ax.tmps.getD 28 undef = .tuple #[.int .u64 (Rg.oneV (Rg.nar ⟨⟨a, b⟩, ⟨c, d⟩⟩)), .bool (Rg.oneB (Rg.nar ⟨⟨a, b⟩, ⟨c, d⟩⟩))] := (hdone 0 _ rfl rfl).2 _ rfl
        exact wpOp_val (v := .bool (Rg.oneB (Rg.nar ⟨⟨a, b⟩, ⟨c, d⟩⟩))) (w' := wx) rfl rfl (by simp [execOp, Act.eval, s28, go_sem]) ⟨_, rfl, tab_put rfl hs rfl (congrArg Value.bool Ffk2.out), hS.same 4 rfl⟩
       ·
        have s31 : ax.tmps.getD 31 undef = .int .u64 (Rg.oneV (Rg.nar ⟨⟨a, b⟩, ⟨c, d⟩⟩)) := (hdone 0 _ rfl rfl).2 _ rfl
        exact wpOp_val (v := .int .u64 (Rg.oneV (Rg.nar ⟨⟨a, b⟩, ⟨c, d⟩⟩))) (w' := wx) rfl rfl (by simp [execOp, Act.eval, s31]) ⟨_, rfl, tab_put rfl hs rfl rfl, hS.same 5 rfl⟩
       ·
        have s32 : ax.tmps.getD 32 undef = .bool false := (hdone 0 _ rfl rfl).2 _ rfl
        exact wpOp_val (v := .bool false) (w' := wx) rfl rfl (by simp [execOp, Act.eval, s32]) ⟨_, rfl, tab_put rfl hs rfl rfl, hS.same 6 rfl⟩
     intro a4 w4 fl d4 z4 rest4 R4 hfl hS
     obtain ⟨B4, n4, hBs, hAs, hPs⟩ := hS.finish hfl rfl
     replace d4 := d4.trans d3
     replace z4 := z4.trans z3
     obtain ⟨⟨-, b_g1_4⟩, ⟨-, b_g2_4⟩, -⟩ := hBs
     have s1_4 := (rest4 1 (not_of (by kernel_rfl))).trans s1_3
     have s2_4 := (rest4 2 (not_of (by kernel_rfl))).trans s2_3
     have s4_4 := (rest4 4 (not_of (by kernel_rfl))).trans s4_3
     have s5_4 := (rest4 5 (not_of (by kernel_rfl))).trans s5_3
     have s7_4 : a4.tmps.getD 7 undef = .int .u64 (Rg.oneV (Rg.nar ⟨⟨a, b⟩, ⟨c, d⟩⟩)) := R4 5 _ rfl
     have s8_4 : a4.tmps.getD 8 undef = .bool false := R4 6 _ rfl
     clear R4 rest4 hS hfl hPs hAs
     clear s1_3 s2_3 s4_3 s5_3 s15_3 b_g1_3 b_g2_3 d3 z3
     refine wp_seq ?_
     refine wp_regx (SX W w4.heap.size [⟨g1, 60, (cR a b c d), none, #[]⟩, ⟨g2, 60, (cR ((Rg.nar ⟨⟨a, b⟩, ⟨c, d⟩⟩).u.lo) ((Rg.nar ⟨⟨a, b⟩, ⟨c, d⟩⟩).u.hi) ((Rg.nar ⟨⟨a, b⟩, ⟨c, d⟩⟩).s.lo) ((Rg.nar ⟨⟨a, b⟩, ⟨c, d⟩⟩).s.hi)), none, #[]⟩] []) (TabX [fun vx => vx = .agg #[.int .u64 ((Rg.nar ⟨⟨a, b⟩, ⟨c, d⟩⟩).u.lo), .int .u64 ((Rg.nar ⟨⟨a, b⟩, ⟨c, d⟩⟩).u.hi), .int .i64 ((Rg.nar ⟨⟨a, b⟩, ⟨c, d⟩⟩).s.lo), .int .i64 ((Rg.nar ⟨⟨a, b⟩, ⟨c, d⟩⟩).s.hi)], fun vx => vx = .bool true, fun vx => vx = .bool true, fun vx => vx = .agg #[.int .u64 ((Rg.nar ⟨⟨a, b⟩, ⟨c, d⟩⟩).u.lo), .int .u64 ((Rg.nar ⟨⟨a, b⟩, ⟨c, d⟩⟩).u.hi), .int .i64 ((Rg.nar ⟨⟨a, b⟩, ⟨c, d⟩⟩).s.lo), .int .i64 ((Rg.nar ⟨⟨a, b⟩, ⟨c, d⟩⟩).s.hi)], fun vx => vx = .int .u64 v, fun vx => vx = .bool false, fun vx => vx = .agg #[.int .u64 a, .int .u64 b, .int .i64 c, .int .i64 d], fun vx => vx = .int .u64 v, fun vx => vx = .bool false, fun vx => vx = .bool true, fun vx => vx = .bool true, fun vx => vx = .bool true, fun vx => vx = .bool false, fun vx => vx = .bool true, fun vx => vx = .bool true, fun vx => vx = undef, fun vx => vx = undef, fun vx => vx = undef, fun vx => vx = undef, fun vx => vx = undef, fun vx => vx = undef, fun vx => vx = undef, fun vx => vx = .bool true, fun vx => vx = .bool true, fun vx => vx = .bool true, fun vx => vx = .bool true, fun vx => vx = .bool true, fun vx => vx = .bool true]) (by kernel_rfl) (back_of (by kernel_rfl)) (dst_of (by kernel_rfl)) (in_ofz (by kernel_rfl) z4) (fun fl w1 hfl hw => SX.start' hw B4 hfl rfl ⟨b_g1_4, b_g2_4, trivial⟩) ?h8 ?_
     case h8 =>
       intro ix ox ax wx fl ho hS hfi clo hsz hrest hdone hund
       have t1 := (hrest 1 (not_of (by kernel_rfl))).trans s1_4
       have t2 := (hrest 2 (not_of (by kernel_rfl))).trans s2_4
       have t5 := (hrest 5 (not_of (by kernel_rfl))).trans s5_4
       have t7 := (hrest 7 (not_of (by kernel_rfl))).trans s7_4
       have t8 := (hrest 8 (not_of (by kernel_rfl))).trans s8_4
       have hs : ax.tmps.size = 60 := hsz.trans z4
       have hi : ix < 28 := (Array.getElem?_eq_some_iff.1 ho).1
       clear hrest hsz hund
       obtain rfl | rfl | rfl | rfl | rfl | rfl | rfl | rfl | rfl | rfl | rfl | rfl | rfl | rfl | rfl | rfl | rfl | rfl | rfl | rfl | rfl | rfl | rfl | rfl | rfl | rfl | rfl | rfl : ix = 0 ∨ ix = 1 ∨ ix = 2 ∨ ix = 3 ∨ ix = 4 ∨ ix = 5 ∨ ix = 6 ∨ ix = 7 ∨ ix = 8 ∨ ix = 9 ∨ ix = 10 ∨ ix = 11 ∨ ix = 12 ∨ ix = 13 ∨ ix = 14 ∨ ix = 15 ∨ ix = 16 ∨ ix = 17 ∨ ix = 18 ∨ ix = 19 ∨ ix = 20 ∨ ix = 21 ∨ ix = 22 ∨ ix = 23 ∨ ix = 24 ∨ ix = 25 ∨ ix = 26 ∨ ix = 27 := by omega
       all_goals obtain rfl := Option.some.inj (show some _ = some ox from ho)
       ·
        have hr := hS.rowNi 1 rfl
        exact wpOp_val (v := .agg #[.int .u64 ((Rg.nar ⟨⟨a, b⟩, ⟨c, d⟩⟩).u.lo), .int .u64 ((Rg.nar ⟨⟨a, b⟩, ⟨c, d⟩⟩).u.hi), .int .i64 ((Rg.nar ⟨⟨a, b⟩, ⟨c, d⟩⟩).s.lo), .int .i64 ((Rg.nar ⟨⟨a, b⟩, ⟨c, d⟩⟩).s.hi)]) (w' := wx) rfl rfl (exec_loadR 60 _ rfl g2 0 (show ax.eval (.tmp 5) = .pointer (some ⟨g2, 0, none⟩) from t5) hr [.int .u64 ((Rg.nar ⟨⟨a, b⟩, ⟨c, d⟩⟩).u.lo), .int .u64 ((Rg.nar ⟨⟨a, b⟩, ⟨c, d⟩⟩).u.hi), .int .i64 ((Rg.nar ⟨⟨a, b⟩, ⟨c, d⟩⟩).s.lo), .int .i64 ((Rg.nar ⟨⟨a, b⟩, ⟨c, d⟩⟩).s.hi)] rfl _ Try.underlying60 rfl (by kernel_rfl)) ⟨_, rfl, tab_put rfl hs rfl rfl, hS.same 0 rfl⟩
       ·
        have s33 : ax.tmps.getD 33 undef = .agg #[.int .u64 ((Rg.nar ⟨⟨a, b⟩, ⟨c, d⟩⟩).u.lo), .int .u64 ((Rg.nar ⟨⟨a, b⟩, ⟨c, d⟩⟩).u.hi), .int .i64 ((Rg.nar ⟨⟨a, b⟩, ⟨c, d⟩⟩).s.lo), .int .i64 ((Rg.nar ⟨⟨a, b⟩, ⟨c, d⟩⟩).s.hi)] := (hdone 0 _ rfl rfl).2 _ rfl
        refine wpOp_call (args := #[.agg #[.int .u64 ((Rg.nar ⟨⟨a, b⟩, ⟨c, d⟩⟩).u.lo), .int .u64 ((Rg.nar ⟨⟨a, b⟩, ⟨c, d⟩⟩).u.hi), .int .i64 ((Rg.nar ⟨⟨a, b⟩, ⟨c, d⟩⟩).s.lo), .int .i64 ((Rg.nar ⟨⟨a, b⟩, ⟨c, d⟩⟩).s.hi)]]) rfl rfl (exec_call rfl rfl rfl (args1 (show ax.eval (.tmp 33) = .agg #[.int .u64 ((Rg.nar ⟨⟨a, b⟩, ⟨c, d⟩⟩).u.lo), .int .u64 ((Rg.nar ⟨⟨a, b⟩, ⟨c, d⟩⟩).u.hi), .int .i64 ((Rg.nar ⟨⟨a, b⟩, ⟨c, d⟩⟩).s.lo), .int .i64 ((Rg.nar ⟨⟨a, b⟩, ⟨c, d⟩⟩).s.hi)] from s33)) Try.func30 (by decide +kernel) rfl) ?_
        · refine (may_n ((Rg.nar ⟨⟨a, b⟩, ⟨c, d⟩⟩).u.lo) ((Rg.nar ⟨⟨a, b⟩, ⟨c, d⟩⟩).u.hi) ((Rg.nar ⟨⟨a, b⟩, ⟨c, d⟩⟩).s.lo) ((Rg.nar ⟨⟨a, b⟩, ⟨c, d⟩⟩).s.hi) wx).mono ?_
          rintro e w' ⟨rfl, b9⟩
          exact ⟨_, rfl, _, rfl, tab_put rfl hs rfl (congrArg Value.bool (K3.out Ffk1.out)), hS.quiet 1 rfl b9⟩
       ·
        have s34 : ax.tmps.getD 34 undef = .bool true := (hdone 0 _ rfl rfl).2 _ rfl
        exact wpOp_val (v := .bool true) (w' := wx) rfl rfl (by simp [execOp, Act.eval, s34]) ⟨_, rfl, tab_put rfl hs rfl rfl, hS.same 2 rfl⟩
       ·
        have hg : ax.tmps.getD 35 undef = .bool true := (hdone 0 _ rfl rfl).2 _ rfl
        have hr := hS.rowNi 1 rfl
        exact wpOp_valw (v := .agg #[.int .u64 ((Rg.nar ⟨⟨a, b⟩, ⟨c, d⟩⟩).u.lo), .int .u64 ((Rg.nar ⟨⟨a, b⟩, ⟨c, d⟩⟩).u.hi), .int .i64 ((Rg.nar ⟨⟨a, b⟩, ⟨c, d⟩⟩).s.lo), .int .i64 ((Rg.nar ⟨⟨a, b⟩, ⟨c, d⟩⟩).s.hi)]) (w' := wx) rfl (wanted_yes 2 35 true hg (by rw [hs]; omega) rfl rfl rfl rfl) (exec_loadR 60 _ rfl g2 0 (show ax.eval (.tmp 5) = .pointer (some ⟨g2, 0, none⟩) from t5) hr [.int .u64 ((Rg.nar ⟨⟨a, b⟩, ⟨c, d⟩⟩).u.lo), .int .u64 ((Rg.nar ⟨⟨a, b⟩, ⟨c, d⟩⟩).u.hi), .int .i64 ((Rg.nar ⟨⟨a, b⟩, ⟨c, d⟩⟩).s.lo), .int .i64 ((Rg.nar ⟨⟨a, b⟩, ⟨c, d⟩⟩).s.hi)] rfl _ Try.underlying60 rfl (by kernel_rfl)) ⟨_, rfl, tab_put rfl hs rfl rfl, hS.same 3 rfl⟩
       ·
        have hg : ax.tmps.getD 35 undef = .bool true := (hdone 0 _ rfl rfl).2 _ rfl
        exact wpOp_valw (v := .int .u64 v) (w' := wx) rfl (wanted_yes 2 35 true hg (by rw [hs]; omega) rfl rfl rfl rfl) (by simp [execOp, Act.eval, t1]) ⟨_, rfl, tab_put rfl hs rfl rfl, hS.same 4 rfl⟩
       ·
        have hg : ax.tmps.getD 35 undef = .bool true := (hdone 2 _ rfl rfl).2 _ rfl
        have s36 : ax.tmps.getD 36 undef = .agg #[.int .u64 ((Rg.nar ⟨⟨a, b⟩, ⟨c, d⟩⟩).u.lo), .int .u64 ((Rg.nar ⟨⟨a, b⟩, ⟨c, d⟩⟩).u.hi), .int .i64 ((Rg.nar ⟨⟨a, b⟩, ⟨c, d⟩⟩).s.lo), .int .i64 ((Rg.nar ⟨⟨a, b⟩, ⟨c, d⟩⟩).s.hi)] := (hdone 0 _ rfl rfl).2 _ rfl
        have s37 : ax.tmps.getD 37 undef = .int .u64 v := (hdone 1 _ rfl rfl).2 _ rfl
        refine wpOp_callw (args := #[.agg #[.int .u64 ((Rg.nar ⟨⟨a, b⟩, ⟨c, d⟩⟩).u.lo), .int .u64 ((Rg.nar ⟨⟨a, b⟩, ⟨c, d⟩⟩).u.hi), .int .i64 ((Rg.nar ⟨⟨a, b⟩, ⟨c, d⟩⟩).s.lo), .int .i64 ((Rg.nar ⟨⟨a, b⟩, ⟨c, d⟩⟩).s.hi)], .int .u64 v]) rfl (wanted_yes 2 35 true hg (by rw [hs]; omega) rfl rfl rfl rfl) (exec_call rfl rfl rfl (args2 (show ax.eval (.tmp 36) = .agg #[.int .u64 ((Rg.nar ⟨⟨a, b⟩, ⟨c, d⟩⟩).u.lo), .int .u64 ((Rg.nar ⟨⟨a, b⟩, ⟨c, d⟩⟩).u.hi), .int .i64 ((Rg.nar ⟨⟨a, b⟩, ⟨c, d⟩⟩).s.lo), .int .i64 ((Rg.nar ⟨⟨a, b⟩, ⟨c, d⟩⟩).s.hi)] from s36) (show ax.eval (.tmp 37) = .int .u64 v from s37)) Try.func36 (by decide +kernel) rfl) ?_
        · refine (has_n ((Rg.nar ⟨⟨a, b⟩, ⟨c, d⟩⟩).u.lo) ((Rg.nar ⟨⟨a, b⟩, ⟨c, d⟩⟩).u.hi) ((Rg.nar ⟨⟨a, b⟩, ⟨c, d⟩⟩).s.lo) ((Rg.nar ⟨⟨a, b⟩, ⟨c, d⟩⟩).s.hi) v wx).mono ?_
          rintro e w' ⟨rfl, b9⟩
          exact ⟨_, rfl, _, rfl, tab_put rfl hs rfl (congrArg Value.bool ((K4.out Ffk1.out).trans FV.out)), hS.quiet 5 rfl b9⟩
       ·
        have hg : ax.tmps.getD 35 undef = .bool true := (hdone 0 _ rfl rfl).2 _ rfl
        have hr := hS.rowNi 0 rfl
        exact wpOp_valw (v := .agg #[.int .u64 a, .int .u64 b, .int .i64 c, .int .i64 d]) (w' := wx) rfl (wanted_yes 2 35 true hg (by rw [hs]; omega) rfl rfl rfl rfl) (exec_loadR 60 _ rfl g1 0 (show ax.eval (.tmp 2) = .pointer (some ⟨g1, 0, none⟩) from t2) hr [.int .u64 a, .int .u64 b, .int .i64 c, .int .i64 d] rfl _ Try.underlying60 rfl (by kernel_rfl)) ⟨_, rfl, tab_put rfl hs rfl rfl, hS.same 6 rfl⟩
       ·
        have hg : ax.tmps.getD 35 undef = .bool true := (hdone 0 _ rfl rfl).2 _ rfl
        exact wpOp_valw (v := .int .u64 v) (w' := wx) rfl (wanted_yes 2 35 true hg (by rw [hs]; omega) rfl rfl rfl rfl) (by simp [execOp, Act.eval, t1]) ⟨_, rfl, tab_put rfl hs rfl rfl, hS.same 7 rfl⟩
       ·
        have hg : ax.tmps.getD 35 undef = .bool true := (hdone 3 _ rfl rfl).2 _ rfl
        have s39 : ax.tmps.getD 39 undef = .agg #[.int .u64 a, .int .u64 b, .int .i64 c, .int .i64 d] := (hdone 0 _ rfl rfl).2 _ rfl
        have s40 : ax.tmps.getD 40 undef = .int .u64 v := (hdone 1 _ rfl rfl).2 _ rfl
        refine wpOp_callw (args := #[.agg #[.int .u64 a, .int .u64 b, .int .i64 c, .int .i64 d], .int .u64 v]) rfl (wanted_yes 2 35 true hg (by rw [hs]; omega) rfl rfl rfl rfl) (exec_call rfl rfl rfl (args2 (show ax.eval (.tmp 39) = .agg #[.int .u64 a, .int .u64 b, .int .i64 c, .int .i64 d] from s39) (show ax.eval (.tmp 40) = .int .u64 v from s40)) Try.func36 (by decide +kernel) rfl) ?_
        · refine (has_n a b c d v wx).mono ?_
          rintro e w' ⟨rfl, b9⟩
          exact ⟨_, rfl, _, rfl, tab_put rfl hs rfl (congrArg Value.bool FV.out), hS.quiet 8 rfl b9⟩
       ·
        have hg : ax.tmps.getD 35 undef = .bool true := (hdone 2 _ rfl rfl).2 _ rfl
        have s38 : ax.tmps.getD 38 undef = .bool false := (hdone 0 _ rfl rfl).2 _ rfl
        have s41 : ax.tmps.getD 41 undef = .bool false := (hdone 1 _ rfl rfl).2 _ rfl
        exact wpOp_valw (v := .bool true) (w' := wx) rfl (wanted_yes 2 35 true hg (by rw [hs]; omega) rfl rfl rfl rfl) (by (simp [execOp, Act.eval, s38, s41, go_sem]; try (simp only [IntKind.wrap_i64, wrap64]))) ⟨_, rfl, tab_put rfl hs rfl rfl, hS.same 9 rfl⟩
       ·
        have s35 : ax.tmps.getD 35 undef = .bool true := (hdone 0 _ rfl rfl).2 _ rfl
        have s42 : ax.tmps.getD 42 undef = .bool true := (hdone 1 _ rfl rfl).2 _ rfl
        exact wpOp_val (v := .bool true) (w' := wx) rfl rfl (by simp [execOp, Act.eval, s35, s42, go_sem]) ⟨_, rfl, tab_put rfl hs rfl rfl, hS.same 10 rfl⟩
       ·
        have s43 : ax.tmps.getD 43 undef = .bool true := (hdone 0 _ rfl rfl).2 _ rfl
        exact wpOp_val (v := .bool true) (w' := wx) rfl rfl (by simp [execOp, Act.eval, s43]) ⟨_, rfl, tab_put rfl hs rfl rfl, hS.same 11 rfl⟩
       ·
        have hg : ax.tmps.getD 44 undef = .bool true := (hdone 0 _ rfl rfl).2 _ rfl
        exact wpOp_valw (v := .bool false) (w' := wx) rfl (wanted_yes 11 44 true hg (by rw [hs]; omega) rfl rfl rfl rfl) (by simp [execOp, Act.eval, t8]) ⟨_, rfl, tab_put rfl hs rfl rfl, hS.same 12 rfl⟩
       ·
        have hg : ax.tmps.getD 44 undef = .bool true := (hdone 1 _ rfl rfl).2 _ rfl
        have s45 : ax.tmps.getD 45 undef = .bool false := (hdone 0 _ rfl rfl).2 _ rfl
        exact wpOp_valw (v := .bool true) (w' := wx) rfl (wanted_yes 11 44 true hg (by rw [hs]; omega) rfl rfl rfl rfl) (by simp [execOp, Act.eval, s45, go_sem]) ⟨_, rfl, tab_put rfl hs rfl rfl, hS.same 13 rfl⟩
       ·
        have hg : ax.tmps.getD 44 undef = .bool true := (hdone 1 _ rfl rfl).2 _ rfl
        have s46 : ax.tmps.getD 46 undef = .bool true := (hdone 0 _ rfl rfl).2 _ rfl
        exact wpOp_valw (v := .bool true) (w' := wx) rfl (wanted_yes 11 44 true hg (by rw [hs]; omega) rfl rfl rfl rfl) (by simp [execOp, Act.eval, s46]) ⟨_, rfl, tab_put rfl hs rfl rfl, hS.same 14 rfl⟩
       ·
        have hg : ax.tmps.getD 47 undef = .bool true := (hdone 0 _ rfl rfl).2 _ rfl
        exact wpOp_no rfl (wanted_no 14 47 true hg (by rw [hs]; omega) rfl rfl rfl rfl) ⟨_, rfl, tab_put rfl hs rfl rfl, hS.same 15 rfl⟩
       ·
        have hg : ax.tmps.getD 47 undef = .bool true := (hdone 0 _ rfl rfl).2 _ rfl
        exact wpOp_no rfl (wanted_no 14 47 true hg (by rw [hs]; omega) rfl rfl rfl rfl) ⟨_, rfl, tab_put rfl hs rfl rfl, hS.same 16 rfl⟩
       ·
        have hg : ax.tmps.getD 47 undef = .bool true := (hdone 2 _ rfl rfl).2 _ rfl
        exact wpOp_no rfl (wanted_no 14 47 true hg (by rw [hs]; omega) rfl rfl rfl rfl) ⟨_, rfl, tab_put rfl hs rfl rfl, hS.same 17 rfl⟩
       ·
        have hg : ax.tmps.getD 47 undef = .bool true := (hdone 0 _ rfl rfl).2 _ rfl
        exact wpOp_no rfl (wanted_no 14 47 true hg (by rw [hs]; omega) rfl rfl rfl rfl) ⟨_, rfl, tab_put rfl hs rfl rfl, hS.same 18 rfl⟩
       ·
        have hg : ax.tmps.getD 47 undef = .bool true := (hdone 0 _ rfl rfl).2 _ rfl
        exact wpOp_no rfl (wanted_no 14 47 true hg (by rw [hs]; omega) rfl rfl rfl rfl) ⟨_, rfl, tab_put rfl hs rfl rfl, hS.same 19 rfl⟩
       ·
        have hg : ax.tmps.getD 47 undef = .bool true := (hdone 2 _ rfl rfl).2 _ rfl
        exact wpOp_no rfl (wanted_no 14 47 true hg (by rw [hs]; omega) rfl rfl rfl rfl) ⟨_, rfl, tab_put rfl hs rfl rfl, hS.same 20 rfl⟩
       ·
        have hg : ax.tmps.getD 47 undef = .bool true := (hdone 2 _ rfl rfl).2 _ rfl
        exact wpOp_no rfl (wanted_no 14 47 true hg (by rw [hs]; omega) rfl rfl rfl rfl) ⟨_, rfl, tab_put rfl hs rfl rfl, hS.same 21 rfl⟩
       ·
        have hg : ax.tmps.getD 44 undef = .bool true := (hdone 2 _ rfl rfl).2 _ rfl
        have s47 : ax.tmps.getD 47 undef = .bool true := (hdone 0 _ rfl rfl).2 _ rfl
        have s54 : ax.tmps.getD 54 undef = undef := (hdone 1 _ rfl rfl).2 _ rfl
        exact wpOp_valw (v := .bool true) (w' := wx) rfl (wanted_yes 11 44 true hg (by rw [hs]; omega) rfl rfl rfl rfl) (by simp [execOp, Act.eval, s47, s54, go_sem]) ⟨_, rfl, tab_put rfl hs rfl rfl, hS.same 22 rfl⟩
       ·
        have s44 : ax.tmps.getD 44 undef = .bool true := (hdone 0 _ rfl rfl).2 _ rfl
        have s55 : ax.tmps.getD 55 undef = .bool true := (hdone 1 _ rfl rfl).2 _ rfl
        exact wpOp_val (v := .bool true) (w' := wx) rfl rfl (by simp [execOp, Act.eval, s44, s55, go_sem]) ⟨_, rfl, tab_put rfl hs rfl rfl, hS.same 23 rfl⟩
       ·
        have s56 : ax.tmps.getD 56 undef = .bool true := (hdone 0 _ rfl rfl).2 _ rfl
        exact wpOp_val (v := .bool true) (w' := wx) rfl rfl (by simp [execOp, Act.eval, s56]) ⟨_, rfl, tab_put rfl hs rfl rfl, hS.same 24 rfl⟩
       ·
        have hg : ax.tmps.getD 57 undef = .bool true := (hdone 0 _ rfl rfl).2 _ rfl
        refine wpOp_callw (args := #[]) rfl (wanted_yes 24 57 true hg (by rw [hs]; omega) rfl rfl rfl rfl) (exec_call rfl rfl rfl (args0 ) Try.func46 (by decide +kernel) rfl) ?_
        · refine (wakes_n wx).mono ?_
          rintro e w' ⟨rfl, b9⟩
          exact ⟨_, rfl, _, rfl, tab_put rfl hs rfl rfl, hS.quiet 25 rfl b9⟩
       ·
        have s57 : ax.tmps.getD 57 undef = .bool true := (hdone 0 _ rfl rfl).2 _ rfl
        have s58 : ax.tmps.getD 58 undef = .bool true := (hdone 1 _ rfl rfl).2 _ rfl
        exact wpOp_val (v := .bool true) (w' := wx) rfl rfl (by simp [execOp, Act.eval, s57, s58, go_sem]) ⟨_, rfl, tab_put rfl hs rfl rfl, hS.same 26 rfl⟩
       ·
        have s59 : ax.tmps.getD 59 undef = .bool true := (hdone 0 _ rfl rfl).2 _ rfl
        exact wpOp_val (v := .bool true) (w' := wx) rfl rfl (by simp [execOp, Act.eval, s59]) ⟨_, rfl, tab_put rfl hs rfl rfl, hS.same 27 rfl⟩
     intro a5 w5 fl d5 z5 rest5 R5 hfl hS
     obtain ⟨B5, n5, hBs, hAs, hPs⟩ := hS.finish hfl rfl
     replace d5 := d5.trans d4
     replace z5 := z5.trans z4
     obtain ⟨⟨-, b_g1_5⟩, ⟨-, b_g2_5⟩, -⟩ := hBs
     have s4_5 : a5.tmps.getD 4 undef = .bool true := R5 27 _ rfl
     clear R5 rest5 hS hfl hPs hAs
     clear s1_4 s2_4 s4_4 s5_4 s7_4 s8_4 b_g1_4 b_g2_4 d4 z4
     refine wp_ret ?_
     try simp only [Exit.inBlock, Exit.then]
     refine bodyPost_ret (res_t (fn := Try.f10) rfl s4_5) d5 ?_
     exact ⟨rfl, B5⟩
    have Ffk2 := Lib.hid fk2; clear fk2
    refine wp_regx (SX W w3.heap.size [⟨g1, 60, (cR a b c d), none, #[]⟩, ⟨g2, 60, (cR ((Rg.nar ⟨⟨a, b⟩, ⟨c, d⟩⟩).u.lo) ((Rg.nar ⟨⟨a, b⟩, ⟨c, d⟩⟩).u.hi) ((Rg.nar ⟨⟨a, b⟩, ⟨c, d⟩⟩).s.lo) ((Rg.nar ⟨⟨a, b⟩, ⟨c, d⟩⟩).s.hi)), none, #[]⟩] []) (TabX [fun vx => vx = .agg #[.int .u64 ((Rg.nar ⟨⟨a, b⟩, ⟨c, d⟩⟩).u.lo), .int .u64 ((Rg.nar ⟨⟨a, b⟩, ⟨c, d⟩⟩).u.hi), .int .i64 ((Rg.nar ⟨⟨a, b⟩, ⟨c, d⟩⟩).s.lo), .int .i64 ((Rg.nar ⟨⟨a, b⟩, ⟨c, d⟩⟩).s.hi)], fun vx => vx = .tuple #[.int .u64 (Rg.oneV (Rg.nar ⟨⟨a, b⟩, ⟨c, d⟩⟩)), .bool (Rg.oneB (Rg.nar ⟨⟨a, b⟩, ⟨c, d⟩⟩))], fun vx => vx = .tuple #[.int .u64 (Rg.oneV (Rg.nar ⟨⟨a, b⟩, ⟨c, d⟩⟩)), .bool (Rg.oneB (Rg.nar ⟨⟨a, b⟩, ⟨c, d⟩⟩))], fun vx => vx = .int .u64 (Rg.oneV (Rg.nar ⟨⟨a, b⟩, ⟨c, d⟩⟩)), fun vx => vx = .bool true, fun vx => vx = .int .u64 (Rg.oneV (Rg.nar ⟨⟨a, b⟩, ⟨c, d⟩⟩)), fun vx => vx = .bool true]) (by kernel_rfl) (back_of (by kernel_rfl)) (dst_of (by kernel_rfl)) (in_ofz (by kernel_rfl) z3) (fun fl w1 hfl hw => SX.start' hw B3 hfl rfl ⟨b_g1_3, b_g2_3, trivial⟩) ?h9 ?_
    case h9 =>
      intro ix ox ax wx fl ho hS hfi clo hsz hrest hdone hund
      have t5 := (hrest 5 (not_of (by kernel_rfl))).trans s5_3
      have hs : ax.tmps.size = 60 := hsz.trans z3
      have hi : ix < 7 := (Array.getElem?_eq_some_iff.1 ho).1
      clear hrest hsz hund
      obtain rfl | rfl | rfl | rfl | rfl | rfl | rfl : ix = 0 ∨ ix = 1 ∨ ix = 2 ∨ ix = 3 ∨ ix = 4 ∨ ix = 5 ∨ ix = 6 := by omega
      all_goals obtain rfl := Option.some.inj (show some _ = some ox from ho)
      ·
       have hr := hS.rowNi 1 rfl
       exact wpOp_val (v := .agg #[.int .u64 ((Rg.nar ⟨⟨a, b⟩, ⟨c, d⟩⟩).u.lo), .int .u64 ((Rg.nar ⟨⟨a, b⟩, ⟨c, d⟩⟩).u.hi), .int .i64 ((Rg.nar ⟨⟨a, b⟩, ⟨c, d⟩⟩).s.lo), .int .i64 ((Rg.nar ⟨⟨a, b⟩, ⟨c, d⟩⟩).s.hi)]) (w' := wx) rfl rfl (exec_loadR 60 _ rfl g2 0 (show ax.eval (.tmp 5) = .pointer (some ⟨g2, 0, none⟩) from t5) hr [.int .u64 ((Rg.nar ⟨⟨a, b⟩, ⟨c, d⟩⟩).u.lo), .int .u64 ((Rg.nar ⟨⟨a, b⟩, ⟨c, d⟩⟩).u.hi), .int .i64 ((Rg.nar ⟨⟨a, b⟩, ⟨c, d⟩⟩).s.lo), .int .i64 ((Rg.nar ⟨⟨a, b⟩, ⟨c, d⟩⟩).s.hi)] rfl _ Try.underlying60 rfl (by kernel_rfl)) ⟨_, rfl, tab_put rfl hs rfl rfl, hS.same 0 rfl⟩
      ·
       have s29 : ax.tmps.getD 29 undef = .agg #[.int .u64 ((Rg.nar ⟨⟨a, b⟩, ⟨c, d⟩⟩).u.lo), .int .u64 ((Rg.nar ⟨⟨a, b⟩, ⟨c, d⟩⟩).u.hi), .int .i64 ((Rg.nar ⟨⟨a, b⟩, ⟨c, d⟩⟩).s.lo), .int .i64 ((Rg.nar ⟨⟨a, b⟩, ⟨c, d⟩⟩).s.hi)] := (hdone 0 _ rfl rfl).2 _ rfl
       refine wpOp_call (args := #[.agg #[.int .u64 ((Rg.nar ⟨⟨a, b⟩, ⟨c, d⟩⟩).u.lo), .int .u64 ((Rg.nar ⟨⟨a, b⟩, ⟨c, d⟩⟩).u.hi), .int .i64 ((Rg.nar ⟨⟨a, b⟩, ⟨c, d⟩⟩).s.lo), .int .i64 ((Rg.nar ⟨⟨a, b⟩, ⟨c, d⟩⟩).s.hi)]]) rfl rfl (exec_call rfl rfl rfl (args1 (show ax.eval (.tmp 29) = .agg #[.int .u64 ((Rg.nar ⟨⟨a, b⟩, ⟨c, d⟩⟩).u.lo), .int .u64 ((Rg.nar ⟨⟨a, b⟩, ⟨c, d⟩⟩).u.hi), .int .i64 ((Rg.nar ⟨⟨a, b⟩, ⟨c, d⟩⟩).s.lo), .int .i64 ((Rg.nar ⟨⟨a, b⟩, ⟨c, d⟩⟩).s.hi)] from s29)) Try.func26 (by decide +kernel) rfl) ?_
       · refine (single_n ((Rg.nar ⟨⟨a, b⟩, ⟨c, d⟩⟩).u.lo) ((Rg.nar ⟨⟨a, b⟩, ⟨c, d⟩⟩).u.hi) ((Rg.nar ⟨⟨a, b⟩, ⟨c, d⟩⟩).s.lo) ((Rg.nar ⟨⟨a, b⟩, ⟨c, d⟩⟩).s.hi) wx).mono ?_
         rintro e w' ⟨rfl, b9⟩
         exact ⟨_, rfl, _, rfl, tab_put rfl hs rfl rfl, hS.quiet 1 rfl b9⟩
      ·
       have s30 : ax.tmps.getD 30 undef = .tuple #[.int .u64 (Rg.oneV (Rg.nar ⟨⟨a, b⟩, ⟨c, d⟩⟩)), .bool (Rg.oneB (Rg.nar ⟨⟨a, b⟩, ⟨c, d⟩⟩))] := (hdone 0 _ rfl rfl).2 _ rfl
       exact wpOp_val (v := .tuple #[.int .u64 (Rg.oneV (Rg.nar ⟨⟨a, b⟩, ⟨c, d⟩⟩)), .bool (Rg.oneB (Rg.nar ⟨⟨a, b⟩, ⟨c, d⟩⟩))]) (w' := wx) rfl rfl (by (revert s30; generalize (.tuple #[.int .u64 (Rg.oneV (Rg.nar ⟨⟨a, b⟩, ⟨c, d⟩⟩)), .bool (Rg.oneB (Rg.nar ⟨⟨a, b⟩, ⟨c, d⟩⟩))] : Value) = y0; intro s30); simp [execOp, Act.eval, s30]) ⟨_, rfl, tab_put rfl hs rfl rfl, hS.same 2 rfl⟩
      ·
       have s28 : ax.tmps.getD 28 undef = .tuple #[.int .u64 (Rg.oneV (Rg.nar ⟨⟨a, b⟩, ⟨c, d⟩⟩)), .bool (Rg.oneB (Rg.nar ⟨⟨a, b⟩, ⟨c, d⟩⟩))] := (hdone 0 _ rfl rfl).2 _ rfl
       exact wpOp_val (v := .int .u64 (Rg.oneV (Rg.nar ⟨⟨a, b⟩, ⟨c, d⟩⟩))) (w' := wx) rfl rfl (by simp [execOp, Act.eval, s28, go_sem]) ⟨_, rfl, tab_put rfl hs rfl rfl, hS.same 3 rfl⟩
      ·
       have s28 : ax.tmps.getD 28 undef = .tuple #[.int .u64 (Rg.oneV (Rg.nar ⟨⟨a, b⟩, ⟨c, d⟩⟩)), .bool (Rg.oneB (Rg.nar ⟨⟨a, b⟩, ⟨c, d⟩⟩))] := (hdone 0 _ rfl rfl).2 _ rfl
       exact wpOp_val (v := .bool (Rg.oneB (Rg.nar ⟨⟨a, b⟩, ⟨c, d⟩⟩))) (w' := wx) rfl rfl (by simp [execOp, Act.eval, s28, go_sem]) ⟨_, rfl, tab_put rfl hs rfl (congrArg Value.bool Ffk2.out), hS.same 4 rfl⟩
      ·
       have s31 : ax.tmps.getD 31 undef = .int .u64 (Rg.oneV (Rg.nar ⟨⟨a, b⟩, ⟨c, d⟩⟩)) := (hdone 0 _ rfl rfl).2 _ rfl
       exact wpOp_val (v := .int .u64 (Rg.oneV (Rg.nar ⟨⟨a, b⟩, ⟨c, d⟩⟩))) (w' := wx) rfl rfl (by simp [execOp, Act.eval, s31]) ⟨_, rfl, tab_put rfl hs rfl rfl, hS.same 5 rfl⟩
      ·
       have s32 : ax.tmps.getD 32 undef = .bool true := (hdone 0 _ rfl rfl).2 _ rfl
       exact wpOp_val (v := .bool true) (w' := wx) rfl rfl (by simp [execOp, Act.eval, s32]) ⟨_, rfl, tab_put rfl hs rfl rfl, hS.same 6 rfl⟩
    intro a4 w4 fl d4 z4 rest4 R4 hfl hS
    obtain ⟨B4, n4, hBs, hAs, hPs⟩ := hS.finish hfl rfl
    replace d4 := d4.trans d3
    replace z4 := z4.trans z3
    obtain ⟨⟨-, b_g1_4⟩, ⟨-, b_g2_4⟩, -⟩ := hBs
    have s1_4 := (rest4 1 (not_of (by kernel_rfl))).trans s1_3
    have s2_4 := (rest4 2 (not_of (by kernel_rfl))).trans s2_3
    have s4_4 := (rest4 4 (not_of (by kernel_rfl))).trans s4_3
    have s5_4 := (rest4 5 (not_of (by kernel_rfl))).trans s5_3
    have s7_4 : a4.tmps.getD 7 undef = .int .u64 (Rg.oneV (Rg.nar ⟨⟨a, b⟩, ⟨c, d⟩⟩)) := R4 5 _ rfl
    have s8_4 : a4.tmps.getD 8 undef = .bool true := R4 6 _ rfl
    clear R4 rest4 hS hfl hPs hAs
    clear s1_3 s2_3 s4_3 s5_3 s15_3 b_g1_3 b_g2_3 d3 z3
    refine wp_seq ?_
    refine wp_regx (SX W w4.heap.size [⟨g1, 60, (cR a b c d), none, #[]⟩, ⟨g2, 60, (cR ((Rg.nar ⟨⟨a, b⟩, ⟨c, d⟩⟩).u.lo) ((Rg.nar ⟨⟨a, b⟩, ⟨c, d⟩⟩).u.hi) ((Rg.nar ⟨⟨a, b⟩, ⟨c, d⟩⟩).s.lo) ((Rg.nar ⟨⟨a, b⟩, ⟨c, d⟩⟩).s.hi)), none, #[]⟩] []) (TabX [fun vx => vx = .agg #[.int .u64 ((Rg.nar ⟨⟨a, b⟩, ⟨c, d⟩⟩).u.lo), .int .u64 ((Rg.nar ⟨⟨a, b⟩, ⟨c, d⟩⟩).u.hi), .int .i64 ((Rg.nar ⟨⟨a, b⟩, ⟨c, d⟩⟩).s.lo), .int .i64 ((Rg.nar ⟨⟨a, b⟩, ⟨c, d⟩⟩).s.hi)], fun vx => vx = .bool true, fun vx => vx = .bool true, fun vx => vx = .agg #[.int .u64 ((Rg.nar ⟨⟨a, b⟩, ⟨c, d⟩⟩).u.lo), .int .u64 ((Rg.nar ⟨⟨a, b⟩, ⟨c, d⟩⟩).u.hi), .int .i64 ((Rg.nar ⟨⟨a, b⟩, ⟨c, d⟩⟩).s.lo), .int .i64 ((Rg.nar ⟨⟨a, b⟩, ⟨c, d⟩⟩).s.hi)], fun vx => vx = .int .u64 v, fun vx => vx = .bool false, fun vx => vx = .agg #[.int .u64 a, .int .u64 b, .int .i64 c, .int .i64 d], fun vx => vx = .int .u64 v, fun vx => vx = .bool false, fun vx => vx = .bool true, fun vx => vx = .bool true, fun vx => vx = .bool true, fun vx => vx = .bool true, fun vx => vx = .bool false, fun vx => vx = .bool false, fun vx => vx = .agg #[.int .u64 ((Rg.nar ⟨⟨a, b⟩, ⟨c, d⟩⟩).u.lo), .int .u64 ((Rg.nar ⟨⟨a, b⟩, ⟨c, d⟩⟩).u.hi), .int .i64 ((Rg.nar ⟨⟨a, b⟩, ⟨c, d⟩⟩).s.lo), .int .i64 ((Rg.nar ⟨⟨a, b⟩, ⟨c, d⟩⟩).s.hi)], fun vx => vx = .int .u64 v, fun vx => vx = .bool false, fun vx => vx = .int .u64 v, fun vx => vx = .int .u64 (Rg.oneV (Rg.nar ⟨⟨a, b⟩, ⟨c, d⟩⟩)), fun vx => vx = .bool false, fun vx => vx = .bool true, fun vx => vx = .bool true, fun vx => vx = .bool true, fun vx => vx = .bool true, fun vx => vx = .bool true, fun vx => vx = .bool true, fun vx => vx = .bool true]) (by kernel_rfl) (back_of (by kernel_rfl)) (dst_of (by kernel_rfl)) (in_ofz (by kernel_rfl) z4) (fun fl w1 hfl hw => SX.start' hw B4 hfl rfl ⟨b_g1_4, b_g2_4, trivial⟩) ?h10 ?_
    case h10 =>
      intro ix ox ax wx fl ho hS hfi clo hsz hrest hdone hund
      have t1 := (hrest 1 (not_of (by kernel_rfl))).trans s1_4
      have t2 := (hrest 2 (not_of (by kernel_rfl))).trans s2_4
      have t5 := (hrest 5 (not_of (by kernel_rfl))).trans s5_4
      have t7 := (hrest 7 (not_of (by kernel_rfl))).trans s7_4
      have t8 := (hrest 8 (not_of (by kernel_rfl))).trans s8_4
      have hs : ax.tmps.size = 60 := hsz.trans z4
      have hi : ix < 28 := (Array.getElem?_eq_some_iff.1 ho).1
      clear hrest hsz hund
      obtain rfl | rfl | rfl | rfl | rfl | rfl | rfl | rfl | rfl | rfl | rfl | rfl | rfl | rfl | rfl | rfl | rfl | rfl | rfl | rfl | rfl | rfl | rfl | rfl | rfl | rfl | rfl | rfl : ix = 0 ∨ ix = 1 ∨ ix = 2 ∨ ix = 3 ∨ ix = 4 ∨ ix = 5 ∨ ix = 6 ∨ ix = 7 ∨ ix = 8 ∨ ix = 9 ∨ ix = 10 ∨ ix = 11 ∨ ix = 12 ∨ ix = 13 ∨ ix = 14 ∨ ix = 15 ∨ ix = 16 ∨ ix = 17 ∨ ix = 18 ∨ ix = 19 ∨ ix = 20 ∨ ix = 21 ∨ ix = 22 ∨ ix = 23 ∨ ix = 24 ∨ ix = 25 ∨ ix = 26 ∨ ix = 27 := by omega
      all_goals obtain rfl := Option.some.inj (show some _ = some ox from ho)
      ·
       have hr := hS.rowNi 1 rfl
       exact wpOp_val (v := .agg #[.int .u64 ((Rg.nar ⟨⟨a, b⟩, ⟨c, d⟩⟩).u.lo), .int .u64 ((Rg.nar ⟨⟨a, b⟩, ⟨c, d⟩⟩).u.hi), .int .i64 ((Rg.nar ⟨⟨a, b⟩, ⟨c, d⟩⟩).s.lo), .int .i64 ((Rg.nar ⟨⟨a, b⟩, ⟨c, d⟩⟩).s.hi)]) (w' := wx) rfl rfl (exec_loadR 60 _ rfl g2 0 (show ax.eval (.tmp 5) = .pointer (some ⟨g2, 0, none⟩) from t5) hr [.int .u64 ((Rg.nar ⟨⟨a, b⟩, ⟨c, d⟩⟩).u.lo), .int .u64 ((Rg.nar ⟨⟨a, b⟩, ⟨c, d⟩⟩).u.hi), .int .i64 ((Rg.nar ⟨⟨a, b⟩, ⟨c, d⟩⟩).s.lo), .int .i64 ((Rg.nar ⟨⟨a, b⟩, ⟨c, d⟩⟩).s.hi)] rfl _ Try.underlying60 rfl (by kernel_rfl)) ⟨_, rfl, tab_put rfl hs rfl rfl, hS.same 0 rfl⟩
      ·
       have s33 : ax.tmps.getD 33 undef = .agg #[.int .u64 ((Rg.nar ⟨⟨a, b⟩, ⟨c, d⟩⟩).u.lo), .int .u64 ((Rg.nar ⟨⟨a, b⟩, ⟨c, d⟩⟩).u.hi), .int .i64 ((Rg.nar ⟨⟨a, b⟩, ⟨c, d⟩⟩).s.lo), .int .i64 ((Rg.nar ⟨⟨a, b⟩, ⟨c, d⟩⟩).s.hi)] := (hdone 0 _ rfl rfl).2 _ rfl
       refine wpOp_call (args := #[.agg #[.int .u64 ((Rg.nar ⟨⟨a, b⟩, ⟨c, d⟩⟩).u.lo), .int .u64 ((Rg.nar ⟨⟨a, b⟩, ⟨c, d⟩⟩).u.hi), .int .i64 ((Rg.nar ⟨⟨a, b⟩, ⟨c, d⟩⟩).s.lo), .int .i64 ((Rg.nar ⟨⟨a, b⟩, ⟨c, d⟩⟩).s.hi)]]) rfl rfl (exec_call rfl rfl rfl (args1 (show ax.eval (.tmp 33) = .agg #[.int .u64 ((Rg.nar ⟨⟨a, b⟩, ⟨c, d⟩⟩).u.lo), .int .u64 ((Rg.nar ⟨⟨a, b⟩, ⟨c, d⟩⟩).u.hi), .int .i64 ((Rg.nar ⟨⟨a, b⟩, ⟨c, d⟩⟩).s.lo), .int .i64 ((Rg.nar ⟨⟨a, b⟩, ⟨c, d⟩⟩).s.hi)] from s33)) Try.func30 (by decide +kernel) rfl) ?_
       · refine (may_n ((Rg.nar ⟨⟨a, b⟩, ⟨c, d⟩⟩).u.lo) ((Rg.nar ⟨⟨a, b⟩, ⟨c, d⟩⟩).u.hi) ((Rg.nar ⟨⟨a, b⟩, ⟨c, d⟩⟩).s.lo) ((Rg.nar ⟨⟨a, b⟩, ⟨c, d⟩⟩).s.hi) wx).mono ?_
         rintro e w' ⟨rfl, b9⟩
         exact ⟨_, rfl, _, rfl, tab_put rfl hs rfl (congrArg Value.bool (K3.out Ffk1.out)), hS.quiet 1 rfl b9⟩
      ·
       have s34 : ax.tmps.getD 34 undef = .bool true := (hdone 0 _ rfl rfl).2 _ rfl
       exact wpOp_val (v := .bool true) (w' := wx) rfl rfl (by simp [execOp, Act.eval, s34]) ⟨_, rfl, tab_put rfl hs rfl rfl, hS.same 2 rfl⟩
      ·
       have hg : ax.tmps.getD 35 undef = .bool true := (hdone 0 _ rfl rfl).2 _ rfl
       have hr := hS.rowNi 1 rfl
       exact wpOp_valw (v := .agg #[.int .u64 ((Rg.nar ⟨⟨a, b⟩, ⟨c, d⟩⟩).u.lo), .int .u64 ((Rg.nar ⟨⟨a, b⟩, ⟨c, d⟩⟩).u.hi), .int .i64 ((Rg.nar ⟨⟨a, b⟩, ⟨c, d⟩⟩).s.lo), .int .i64 ((Rg.nar ⟨⟨a, b⟩, ⟨c, d⟩⟩).s.hi)]) (w' := wx) rfl (wanted_yes 2 35 true hg (by rw [hs]; omega) rfl rfl rfl rfl) (exec_loadR 60 _ rfl g2 0 (show ax.eval (.tmp 5) = .pointer (some ⟨g2, 0, none⟩) from t5) hr [.int .u64 ((Rg.nar ⟨⟨a, b⟩, ⟨c, d⟩⟩).u.lo), .int .u64 ((Rg.nar ⟨⟨a, b⟩, ⟨c, d⟩⟩).u.hi), .int .i64 ((Rg.nar ⟨⟨a, b⟩, ⟨c, d⟩⟩).s.lo), .int .i64 ((Rg.nar ⟨⟨a, b⟩, ⟨c, d⟩⟩).s.hi)] rfl _ Try.underlying60 rfl (by kernel_rfl)) ⟨_, rfl, tab_put rfl hs rfl rfl, hS.same 3 rfl⟩
      ·
       have hg : ax.tmps.getD 35 undef = .bool true := (hdone 0 _ rfl rfl).2 _ rfl
       exact wpOp_valw (v := .int .u64 v) (w' := wx) rfl (wanted_yes 2 35 true hg (by rw [hs]; omega) rfl rfl rfl rfl) (by simp [execOp, Act.eval, t1]) ⟨_, rfl, tab_put rfl hs rfl rfl, hS.same 4 rfl⟩
      ·
       have hg : ax.tmps.getD 35 undef = .bool true := (hdone 2 _ rfl rfl).2 _ rfl
       have s36 : ax.tmps.getD 36 undef = .agg #[.int .u64 ((Rg.nar ⟨⟨a, b⟩, ⟨c, d⟩⟩).u.lo), .int .u64 ((Rg.nar ⟨⟨a, b⟩, ⟨c, d⟩⟩).u.hi), .int .i64 ((Rg.nar ⟨⟨a, b⟩, ⟨c, d⟩⟩).s.lo), .int .i64 ((Rg.nar ⟨⟨a, b⟩, ⟨c, d⟩⟩).s.hi)] := (hdone 0 _ rfl rfl).2 _ rfl
       have s37 : ax.tmps.getD 37 undef = .int .u64 v := (hdone 1 _ rfl rfl).2 _ rfl
       refine wpOp_callw (args := #[.agg #[.int .u64 ((Rg.nar ⟨⟨a, b⟩, ⟨c, d⟩⟩).u.lo), .int .u64 ((Rg.nar ⟨⟨a, b⟩, ⟨c, d⟩⟩).u.hi), .int .i64 ((Rg.nar ⟨⟨a, b⟩, ⟨c, d⟩⟩).s.lo), .int .i64 ((Rg.nar ⟨⟨a, b⟩, ⟨c, d⟩⟩).s.hi)], .int .u64 v]) rfl (wanted_yes 2 35 true hg (by rw [hs]; omega) rfl rfl rfl rfl) (exec_call rfl rfl rfl (args2 (show ax.eval (.tmp 36) = .agg #[.int .u64 ((Rg.nar ⟨⟨a, b⟩, ⟨c, d⟩⟩).u.lo), .int .u64 ((Rg.nar ⟨⟨a, b⟩, ⟨c, d⟩⟩).u.hi), .int .i64 ((Rg.nar ⟨⟨a, b⟩, ⟨c, d⟩⟩).s.lo), .int .i64 ((Rg.nar ⟨⟨a, b⟩, ⟨c, d⟩⟩).s.hi)] from s36) (show ax.eval (.tmp 37) = .int .u64 v from s37)) Try.func36 (by decide +kernel) rfl) ?_
       · refine (has_n ((Rg.nar ⟨⟨a, b⟩, ⟨c, d⟩⟩).u.lo) ((Rg.nar ⟨⟨a, b⟩, ⟨c, d⟩⟩).u.hi) ((Rg.nar ⟨⟨a, b⟩, ⟨c, d⟩⟩).s.lo) ((Rg.nar ⟨⟨a, b⟩, ⟨c, d⟩⟩).s.hi) v wx).mono ?_
         rintro e w' ⟨rfl, b9⟩
         exact ⟨_, rfl, _, rfl, tab_put rfl hs rfl (congrArg Value.bool ((K4.out Ffk1.out).trans FV.out)), hS.quiet 5 rfl b9⟩
      ·
       have hg : ax.tmps.getD 35 undef = .bool true := (hdone 0 _ rfl rfl).2 _ rfl
       have hr := hS.rowNi 0 rfl
       exact wpOp_valw (v := .agg #[.int .u64 a, .int .u64 b, .int .i64 c, .int .i64 d]) (w' := wx) rfl (wanted_yes 2 35 true hg (by rw [hs]; omega) rfl rfl rfl rfl) (exec_loadR 60 _ rfl g1 0 (show ax.eval (.tmp 2) = .pointer (some ⟨g1, 0, none⟩) from t2) hr [.int .u64 a, .int .u64 b, .int .i64 c, .int .i64 d] rfl _ Try.underlying60 rfl (by kernel_rfl)) ⟨_, rfl, tab_put rfl hs rfl rfl, hS.same 6 rfl⟩
      ·
       have hg : ax.tmps.getD 35 undef = .bool true := (hdone 0 _ rfl rfl).2 _ rfl
       exact wpOp_valw (v := .int .u64 v) (w' := wx) rfl (wanted_yes 2 35 true hg (by rw [hs]; omega) rfl rfl rfl rfl) (by simp [execOp, Act.eval, t1]) ⟨_, rfl, tab_put rfl hs rfl rfl, hS.same 7 rfl⟩
      ·
       have hg : ax.tmps.getD 35 undef = .bool true := (hdone 3 _ rfl rfl).2 _ rfl
       have s39 : ax.tmps.getD 39 undef = .agg #[.int .u64 a, .int .u64 b, .int .i64 c, .int .i64 d] := (hdone 0 _ rfl rfl).2 _ rfl
       have s40 : ax.tmps.getD 40 undef = .int .u64 v := (hdone 1 _ rfl rfl).2 _ rfl
       refine wpOp_callw (args := #[.agg #[.int .u64 a, .int .u64 b, .int .i64 c, .int .i64 d], .int .u64 v]) rfl (wanted_yes 2 35 true hg (by rw [hs]; omega) rfl rfl rfl rfl) (exec_call rfl rfl rfl (args2 (show ax.eval (.tmp 39) = .agg #[.int .u64 a, .int .u64 b, .int .i64 c, .int .i64 d] from s39) (show ax.eval (.tmp 40) = .int .u64 v from s40)) Try.func36 (by decide +kernel) rfl) ?_
       · refine (has_n a b c d v wx).mono ?_
         rintro e w' ⟨rfl, b9⟩
         exact ⟨_, rfl, _, rfl, tab_put rfl hs rfl (congrArg Value.bool FV.out), hS.quiet 8 rfl b9⟩
      ·
       have hg : ax.tmps.getD 35 undef = .bool true := (hdone 2 _ rfl rfl).2 _ rfl
       have s38 : ax.tmps.getD 38 undef = .bool false := (hdone 0 _ rfl rfl).2 _ rfl
       have s41 : ax.tmps.getD 41 undef = .bool false := (hdone 1 _ rfl rfl).2 _ rfl
       exact wpOp_valw (v := .bool true) (w' := wx) rfl (wanted_yes 2 35 true hg (by rw [hs]; omega) rfl rfl rfl rfl) (by (simp [execOp, Act.eval, s38, s41, go_sem]; try (simp only [IntKind.wrap_i64, wrap64]))) ⟨_, rfl, tab_put rfl hs rfl rfl, hS.same 9 rfl⟩
      ·
       have s35 : ax.tmps.getD 35 undef = .bool true := (hdone 0 _ rfl rfl).2 _ rfl
       have s42 : ax.tmps.getD 42 undef = .bool true := (hdone 1 _ rfl rfl).2 _ rfl
       exact wpOp_val (v := .bool true) (w' := wx) rfl rfl (by simp [execOp, Act.eval, s35, s42, go_sem]) ⟨_, rfl, tab_put rfl hs rfl rfl, hS.same 10 rfl⟩
      ·
       have s43 : ax.tmps.getD 43 undef = .bool true := (hdone 0 _ rfl rfl).2 _ rfl
       exact wpOp_val (v := .bool true) (w' := wx) rfl rfl (by simp [execOp, Act.eval, s43]) ⟨_, rfl, tab_put rfl hs rfl rfl, hS.same 11 rfl⟩
      ·
       have hg : ax.tmps.getD 44 undef = .bool true := (hdone 0 _ rfl rfl).2 _ rfl
       exact wpOp_valw (v := .bool true) (w' := wx) rfl (wanted_yes 11 44 true hg (by rw [hs]; omega) rfl rfl rfl rfl) (by simp [execOp, Act.eval, t8]) ⟨_, rfl, tab_put rfl hs rfl rfl, hS.same 12 rfl⟩
      ·
       have hg : ax.tmps.getD 44 undef = .bool true := (hdone 1 _ rfl rfl).2 _ rfl
       have s45 : ax.tmps.getD 45 undef = .bool true := (hdone 0 _ rfl rfl).2 _ rfl
       exact wpOp_valw (v := .bool false) (w' := wx) rfl (wanted_yes 11 44 true hg (by rw [hs]; omega) rfl rfl rfl rfl) (by simp [execOp, Act.eval, s45, go_sem]) ⟨_, rfl, tab_put rfl hs rfl rfl, hS.same 13 rfl⟩
      ·
       have hg : ax.tmps.getD 44 undef = .bool true := (hdone 1 _ rfl rfl).2 _ rfl
       have s46 : ax.tmps.getD 46 undef = .bool false := (hdone 0 _ rfl rfl).2 _ rfl
       exact wpOp_valw (v := .bool false) (w' := wx) rfl (wanted_yes 11 44 true hg (by rw [hs]; omega) rfl rfl rfl rfl) (by simp [execOp, Act.eval, s46]) ⟨_, rfl, tab_put rfl hs rfl rfl, hS.same 14 rfl⟩
      ·
       have hg : ax.tmps.getD 47 undef = .bool false := (hdone 0 _ rfl rfl).2 _ rfl
       have hr := hS.rowNi 1 rfl
       exact wpOp_valw (v := .agg #[.int .u64 ((Rg.nar ⟨⟨a, b⟩, ⟨c, d⟩⟩).u.lo), .int .u64 ((Rg.nar ⟨⟨a, b⟩, ⟨c, d⟩⟩).u.hi), .int .i64 ((Rg.nar ⟨⟨a, b⟩, ⟨c, d⟩⟩).s.lo), .int .i64 ((Rg.nar ⟨⟨a, b⟩, ⟨c, d⟩⟩).s.hi)]) (w' := wx) rfl (wanted_yes 14 47 false hg (by rw [hs]; omega) rfl rfl rfl rfl) (exec_loadR 60 _ rfl g2 0 (show ax.eval (.tmp 5) = .pointer (some ⟨g2, 0, none⟩) from t5) hr [.int .u64 ((Rg.nar ⟨⟨a, b⟩, ⟨c, d⟩⟩).u.lo), .int .u64 ((Rg.nar ⟨⟨a, b⟩, ⟨c, d⟩⟩).u.hi), .int .i64 ((Rg.nar ⟨⟨a, b⟩, ⟨c, d⟩⟩).s.lo), .int .i64 ((Rg.nar ⟨⟨a, b⟩, ⟨c, d⟩⟩).s.hi)] rfl _ Try.underlying60 rfl (by kernel_rfl)) ⟨_, rfl, tab_put rfl hs rfl rfl, hS.same 15 rfl⟩
      ·
       have hg : ax.tmps.getD 47 undef = .bool false := (hdone 0 _ rfl rfl).2 _ rfl
       exact wpOp_valw (v := .int .u64 v) (w' := wx) rfl (wanted_yes 14 47 false hg (by rw [hs]; omega) rfl rfl rfl rfl) (by simp [execOp, Act.eval, t1]) ⟨_, rfl, tab_put rfl hs rfl rfl, hS.same 16 rfl⟩
      ·
       have hg : ax.tmps.getD 47 undef = .bool false := (hdone 2 _ rfl rfl).2 _ rfl
       have s48 : ax.tmps.getD 48 undef = .agg #[.int .u64 ((Rg.nar ⟨⟨a, b⟩, ⟨c, d⟩⟩).u.lo), .int .u64 ((Rg.nar ⟨⟨a, b⟩, ⟨c, d⟩⟩).u.hi), .int .i64 ((Rg.nar ⟨⟨a, b⟩, ⟨c, d⟩⟩).s.lo), .int .i64 ((Rg.nar ⟨⟨a, b⟩, ⟨c, d⟩⟩).s.hi)] := (hdone 0 _ rfl rfl).2 _ rfl
       have s49 : ax.tmps.getD 49 undef = .int .u64 v := (hdone 1 _ rfl rfl).2 _ rfl
       refine wpOp_callw (args := #[.agg #[.int .u64 ((Rg.nar ⟨⟨a, b⟩, ⟨c, d⟩⟩).u.lo), .int .u64 ((Rg.nar ⟨⟨a, b⟩, ⟨c, d⟩⟩).u.hi), .int .i64 ((Rg.nar ⟨⟨a, b⟩, ⟨c, d⟩⟩).s.lo), .int .i64 ((Rg.nar ⟨⟨a, b⟩, ⟨c, d⟩⟩).s.hi)], .int .u64 v]) rfl (wanted_yes 14 47 false hg (by rw [hs]; omega) rfl rfl rfl rfl) (exec_call rfl rfl rfl (args2 (show ax.eval (.tmp 48) = .agg #[.int .u64 ((Rg.nar ⟨⟨a, b⟩, ⟨c, d⟩⟩).u.lo), .int .u64 ((Rg.nar ⟨⟨a, b⟩, ⟨c, d⟩⟩).u.hi), .int .i64 ((Rg.nar ⟨⟨a, b⟩, ⟨c, d⟩⟩).s.lo), .int .i64 ((Rg.nar ⟨⟨a, b⟩, ⟨c, d⟩⟩).s.hi)] from s48) (show ax.eval (.tmp 49) = .int .u64 v from s49)) Try.func36 (by decide +kernel) rfl) ?_
       · refine (has_n ((Rg.nar ⟨⟨a, b⟩, ⟨c, d⟩⟩).u.lo) ((Rg.nar ⟨⟨a, b⟩, ⟨c, d⟩⟩).u.hi) ((Rg.nar ⟨⟨a, b⟩, ⟨c, d⟩⟩).s.lo) ((Rg.nar ⟨⟨a, b⟩, ⟨c, d⟩⟩).s.hi) v wx).mono ?_
         rintro e w' ⟨rfl, b9⟩
         exact ⟨_, rfl, _, rfl, tab_put rfl hs rfl (congrArg Value.bool ((K4.out Ffk1.out).trans FV.out)), hS.quiet 17 rfl b9⟩
      ·
       have hg : ax.tmps.getD 47 undef = .bool false := (hdone 0 _ rfl rfl).2 _ rfl
       exact wpOp_valw (v := .int .u64 v) (w' := wx) rfl (wanted_yes 14 47 false hg (by rw [hs]; omega) rfl rfl rfl rfl) (by simp [execOp, Act.eval, t1]) ⟨_, rfl, tab_put rfl hs rfl rfl, hS.same 18 rfl⟩
      ·
       have hg : ax.tmps.getD 47 undef = .bool false := (hdone 0 _ rfl rfl).2 _ rfl
       exact wpOp_valw (v := .int .u64 (Rg.oneV (Rg.nar ⟨⟨a, b⟩, ⟨c, d⟩⟩))) (w' := wx) rfl (wanted_yes 14 47 false hg (by rw [hs]; omega) rfl rfl rfl rfl) (by simp [execOp, Act.eval, t7]) ⟨_, rfl, tab_put rfl hs rfl rfl, hS.same 19 rfl⟩
      ·
       have hg : ax.tmps.getD 47 undef = .bool false := (hdone 2 _ rfl rfl).2 _ rfl
       have s51 : ax.tmps.getD 51 undef = .int .u64 v := (hdone 0 _ rfl rfl).2 _ rfl
       have s52 : ax.tmps.getD 52 undef = .int .u64 (Rg.oneV (Rg.nar ⟨⟨a, b⟩, ⟨c, d⟩⟩)) := (hdone 1 _ rfl rfl).2 _ rfl
       exact wpOp_valw (v := .bool (v == (Rg.oneV (Rg.nar ⟨⟨a, b⟩, ⟨c, d⟩⟩)))) (w' := wx) rfl (wanted_yes 14 47 false hg (by rw [hs]; omega) rfl rfl rfl rfl) (by (simp [execOp, Act.eval, s51, s52, go_sem]; try (simp only [IntKind.wrap_i64, wrap64]))) ⟨_, rfl, tab_put rfl hs rfl (congrArg Value.bool ((K5.out Ffk2.out).symm.trans ((K4.out Ffk1.out).trans FV.out))), hS.same 20 rfl⟩
      ·
       have hg : ax.tmps.getD 47 undef = .bool false := (hdone 2 _ rfl rfl).2 _ rfl
       have s50 : ax.tmps.getD 50 undef = .bool false := (hdone 0 _ rfl rfl).2 _ rfl
       have s53 : ax.tmps.getD 53 undef = .bool false := (hdone 1 _ rfl rfl).2 _ rfl
       exact wpOp_valw (v := .bool true) (w' := wx) rfl (wanted_yes 14 47 false hg (by rw [hs]; omega) rfl rfl rfl rfl) (by (simp [execOp, Act.eval, s50, s53, go_sem]; try (simp only [IntKind.wrap_i64, wrap64]))) ⟨_, rfl, tab_put rfl hs rfl rfl, hS.same 21 rfl⟩
      ·
       have hg : ax.tmps.getD 44 undef = .bool true := (hdone 2 _ rfl rfl).2 _ rfl
       have s47 : ax.tmps.getD 47 undef = .bool false := (hdone 0 _ rfl rfl).2 _ rfl
       have s54 : ax.tmps.getD 54 undef = .bool true := (hdone 1 _ rfl rfl).2 _ rfl
       exact wpOp_valw (v := .bool true) (w' := wx) rfl (wanted_yes 11 44 true hg (by rw [hs]; omega) rfl rfl rfl rfl) (by simp [execOp, Act.eval, s47, s54, go_sem]) ⟨_, rfl, tab_put rfl hs rfl rfl, hS.same 22 rfl⟩
      ·
       have s44 : ax.tmps.getD 44 undef = .bool true := (hdone 0 _ rfl rfl).2 _ rfl
       have s55 : ax.tmps.getD 55 undef = .bool true := (hdone 1 _ rfl rfl).2 _ rfl
       exact wpOp_val (v := .bool true) (w' := wx) rfl rfl (by simp [execOp, Act.eval, s44, s55, go_sem]) ⟨_, rfl, tab_put rfl hs rfl rfl, hS.same 23 rfl⟩
      ·
       have s56 : ax.tmps.getD 56 undef = .bool true := (hdone 0 _ rfl rfl).2 _ rfl
       exact wpOp_val (v := .bool true) (w' := wx) rfl rfl (by simp [execOp, Act.eval, s56]) ⟨_, rfl, tab_put rfl hs rfl rfl, hS.same 24 rfl⟩
      ·
       have hg : ax.tmps.getD 57 undef = .bool true := (hdone 0 _ rfl rfl).2 _ rfl
       refine wpOp_callw (args := #[]) rfl (wanted_yes 24 57 true hg (by rw [hs]; omega) rfl rfl rfl rfl) (exec_call rfl rfl rfl (args0 ) Try.func46 (by decide +kernel) rfl) ?_
       · refine (wakes_n wx).mono ?_
         rintro e w' ⟨rfl, b9⟩
         exact ⟨_, rfl, _, rfl, tab_put rfl hs rfl rfl, hS.quiet 25 rfl b9⟩
      ·
       have s57 : ax.tmps.getD 57 undef = .bool true := (hdone 0 _ rfl rfl).2 _ rfl
       have s58 : ax.tmps.getD 58 undef = .bool true := (hdone 1 _ rfl rfl).2 _ rfl
       exact wpOp_val (v := .bool true) (w' := wx) rfl rfl (by simp [execOp, Act.eval, s57, s58, go_sem]) ⟨_, rfl, tab_put rfl hs rfl rfl, hS.same 26 rfl⟩
      ·
       have s59 : ax.tmps.getD 59 undef = .bool true := (hdone 0 _ rfl rfl).2 _ rfl
       exact wpOp_val (v := .bool true) (w' := wx) rfl rfl (by simp [execOp, Act.eval, s59]) ⟨_, rfl, tab_put rfl hs rfl rfl, hS.same 27 rfl⟩
    intro a5 w5 fl d5 z5 rest5 R5 hfl hS
    obtain ⟨B5, n5, hBs, hAs, hPs⟩ := hS.finish hfl rfl
    replace d5 := d5.trans d4
    replace z5 := z5.trans z4
    obtain ⟨⟨-, b_g1_5⟩, ⟨-, b_g2_5⟩, -⟩ := hBs
    have s4_5 : a5.tmps.getD 4 undef = .bool true := R5 27 _ rfl
    clear R5 rest5 hS hfl hPs hAs
    clear s1_4 s2_4 s4_4 s5_4 s7_4 s8_4 b_g1_4 b_g2_4 d4 z4
    refine wp_ret ?_
    try simp only [Exit.inBlock, Exit.then]
    refine bodyPost_ret (res_t (fn := Try.f10) rfl s4_5) d5 ?_
    exact ⟨rfl, B5⟩
  · have FV := Lib.hid fv
    clear fv
    refine calls_abs Try.func10 rfl (Nat.le_of_ble_eq_true rfl) ?_
    intro a0 d0 z0 h0
    have z0 : a0.tmps.size = 60 := z0
    have s0_0 : a0.tmps.getD 0 undef = .agg #[.int .u64 a, .int .u64 b, .int .i64 c, .int .i64 d] := h0 0 (Nat.le_of_ble_eq_true rfl)
    have s1_0 : a0.tmps.getD 1 undef = .int .u64 v := h0 1 (Nat.le_of_ble_eq_true rfl)
    clear h0
    have B0 : Below W.heap.size W W := Below.refl _ _
    refine wp_seq ?_
    refine wp_regx (SX W W.heap.size [] [⟨0, 2, 60, (cR a b c d), none, #[]⟩]) (TabX [fun _ => True, fun vx => vx = .bool false]) (by kernel_rfl) (back_of (by kernel_rfl)) (dst_of (by kernel_rfl)) (in_ofz (by kernel_rfl) z0) (fun fl w1 hfl hw => SX.start' hw B0 hfl rfl trivial) ?h1 ?_
    case h1 =>
      intro ix ox ax wx fl ho hS hfi clo hsz hrest hdone hund
      have t0 := (hrest 0 (not_of (by kernel_rfl))).trans s0_0
      have hs : ax.tmps.size = 60 := hsz.trans z0
      have hi : ix < 2 := (Array.getElem?_eq_some_iff.1 ho).1
      clear hrest hsz hund
      obtain rfl | rfl : ix = 0 ∨ ix = 1 := by omega
      all_goals obtain rfl := Option.some.inj (show some _ = some ox from ho)
      ·
       refine wpOp_val (v := .pointer (some ⟨wx.heap.size, 0, none⟩)) (w' := wx.alloc (.cells #[.int .u64 a, .int .u64 b, .int .i64 c, .int .i64 d] 60)) rfl rfl ?_ ⟨_, rfl, trivial, hS.alloc 0 2 60 #[.int .u64 a, .int .u64 b, .int .i64 c, .int .i64 d] [] [] (none) #[] rfl rfl rfl (by rw [hs]; omega) trivial⟩
       · simp [execOp, Act.eval, t0, go_sem]
      ·
       exact wpOp_val (v := .bool false) (w' := wx) rfl rfl (by simp [execOp, Act.eval]) ⟨_, rfl, tab_put rfl hs rfl rfl, hS.same 1 rfl⟩
    intro a1 w1 fl d1 z1 rest1 R1 hfl hS
    obtain ⟨B1, n1, hBs, hAs, hPs⟩ := hS.finish hfl rfl
    replace d1 := d1.trans d0
    replace z1 := z1.trans z0
    obtain ⟨⟨g1, u_g1, q_g1, b_g1_1⟩, -⟩ := hAs
    replace u_g1 : a1.tmps.getD 2 undef = .pointer (some ⟨g1, 0, none⟩) := u_g1
    have m_g1 : W.heap.size ≤ g1 := q_g1
    replace q_g1 : W.heap.size ≤ g1 := Nat.le_trans B0.size q_g1
    have s1_1 := (rest1 1 (not_of (by kernel_rfl))).trans s1_0
    have s4_1 : a1.tmps.getD 4 undef = .bool false := R1 1 _ rfl
    clear R1 rest1 hS hfl hPs hBs
    clear s0_0 s1_0 d0 z0
    refine wp_seq ?_
    cases fk1 : Rg.narB ⟨⟨a, b⟩, ⟨c, d⟩⟩
    case false =>
     have Ffk1 := Lib.hid fk1; clear fk1
     refine wp_regx (SX W w1.heap.size [⟨g1, 60, (cR a b c d), none, #[]⟩] [⟨5, 5, 60, (cR 0 0 0 0), some 6, (cR ((Rg.nar ⟨⟨a, b⟩, ⟨c, d⟩⟩).u.lo) ((Rg.nar ⟨⟨a, b⟩, ⟨c, d⟩⟩).u.hi) ((Rg.nar ⟨⟨a, b⟩, ⟨c, d⟩⟩).s.lo) ((Rg.nar ⟨⟨a, b⟩, ⟨c, d⟩⟩).s.hi))⟩]) (TabX [fun vx => vx = .agg #[.int .u64 a, .int .u64 b, .int .i64 c, .int .i64 d], fun vx => vx = .tuple #[.agg #[.int .u64 ((Rg.nar ⟨⟨a, b⟩, ⟨c, d⟩⟩).u.lo), .int .u64 ((Rg.nar ⟨⟨a, b⟩, ⟨c, d⟩⟩).u.hi), .int .i64 ((Rg.nar ⟨⟨a, b⟩, ⟨c, d⟩⟩).s.lo), .int .i64 ((Rg.nar ⟨⟨a, b⟩, ⟨c, d⟩⟩).s.hi)], .bool (Rg.narB ⟨⟨a, b⟩, ⟨c, d⟩⟩)], fun vx => vx = .tuple #[.agg #[.int .u64 ((Rg.nar ⟨⟨a, b⟩, ⟨c, d⟩⟩).u.lo), .int .u64 ((Rg.nar ⟨⟨a, b⟩, ⟨c, d⟩⟩).u.hi), .int .i64 ((Rg.nar ⟨⟨a, b⟩, ⟨c, d⟩⟩).s.lo), .int .i64 ((Rg.nar ⟨⟨a, b⟩, ⟨c, d⟩⟩).s.hi)], .bool (Rg.narB ⟨⟨a, b⟩, ⟨c, d⟩⟩)], fun vx => vx = .agg #[.int .u64 ((Rg.nar ⟨⟨a, b⟩, ⟨c, d⟩⟩).u.lo), .int .u64 ((Rg.nar ⟨⟨a, b⟩, ⟨c, d⟩⟩).u.hi), .int .i64 ((Rg.nar ⟨⟨a, b⟩, ⟨c, d⟩⟩).s.lo), .int .i64 ((Rg.nar ⟨⟨a, b⟩, ⟨c, d⟩⟩).s.hi)], fun vx => vx = .bool false, fun _ => True, fun _ => True, fun vx => vx = .bool false]) (by kernel_rfl) (back_of (by kernel_rfl)) (dst_of (by kernel_rfl)) (in_ofz (by kernel_rfl) z1) (fun fl w1 hfl hw => SX.start' hw B1 hfl rfl ⟨b_g1_1, trivial⟩) ?h2 ?_
     case h2 =>
       intro ix ox ax wx fl ho hS hfi clo hsz hrest hdone hund
       have t2 := (hrest 2 (not_of (by kernel_rfl))).trans u_g1
       have hs : ax.tmps.size = 60 := hsz.trans z1
       have hi : ix < 8 := (Array.getElem?_eq_some_iff.1 ho).1
       clear hrest hsz hund
       obtain rfl | rfl | rfl | rfl | rfl | rfl | rfl | rfl : ix = 0 ∨ ix = 1 ∨ ix = 2 ∨ ix = 3 ∨ ix = 4 ∨ ix = 5 ∨ ix = 6 ∨ ix = 7 := by omega
       all_goals obtain rfl := Option.some.inj (show some _ = some ox from ho)
       ·
        have hr := hS.rowNi 0 rfl
        exact wpOp_val (v := .agg #[.int .u64 a, .int .u64 b, .int .i64 c, .int .i64 d]) (w' := wx) rfl rfl (exec_loadR 60 _ rfl g1 0 (show ax.eval (.tmp 2) = .pointer (some ⟨g1, 0, none⟩) from t2) hr [.int .u64 a, .int .u64 b, .int .i64 c, .int .i64 d] rfl _ Try.underlying60 rfl (by kernel_rfl)) ⟨_, rfl, tab_put rfl hs rfl rfl, hS.same 0 rfl⟩
       ·
        have s10 : ax.tmps.getD 10 undef = .agg #[.int .u64 a, .int .u64 b, .int .i64 c, .int .i64 d] := (hdone 0 _ rfl rfl).2 _ rfl
        refine wpOp_call (args := #[.agg #[.int .u64 a, .int .u64 b, .int .i64 c, .int .i64 d]]) rfl rfl (exec_call rfl rfl rfl (args1 (show ax.eval (.tmp 10) = .agg #[.int .u64 a, .int .u64 b, .int .i64 c, .int .i64 d] from s10)) Try.func28 (by decide +kernel) rfl) ?_
        · refine (narrow_n a b c d wx HO.out).mono ?_
          rintro e w' ⟨rfl, b9⟩
          exact ⟨_, rfl, _, rfl, tab_put rfl hs rfl rfl, hS.quiet 1 rfl b9⟩
       ·
        have s11 : ax.tmps.getD 11 undef = .tuple #[.agg #[.int .u64 ((Rg.nar ⟨⟨a, b⟩, ⟨c, d⟩⟩).u.lo), .int .u64 ((Rg.nar ⟨⟨a, b⟩, ⟨c, d⟩⟩).u.hi), .int .i64 ((Rg.nar ⟨⟨a, b⟩, ⟨c, d⟩⟩).s.lo), .int .i64 ((Rg.nar ⟨⟨a, b⟩, ⟨c, d⟩⟩).s.hi)], .bool (Rg.narB ⟨⟨a, b⟩, ⟨c, d⟩⟩)] := (hdone 0 _ rfl rfl).2 _ rfl
        exact wpOp_val (v := .tuple #[.agg #[.int .u64 ((Rg.nar ⟨⟨a, b⟩, ⟨c, d⟩⟩).u.lo), .int .u64 ((Rg.nar ⟨⟨a, b⟩, ⟨c, d⟩⟩).u.hi), .int .i64 ((Rg.nar ⟨⟨a, b⟩, ⟨c, d⟩⟩).s.lo), .int .i64 ((Rg.nar ⟨⟨a, b⟩, ⟨c, d⟩⟩).s.hi)], .bool (Rg.narB ⟨⟨a, b⟩, ⟨c, d⟩⟩)]) (w' := wx) rfl rfl (by (revert s11; generalize (.tuple #[.agg #[.int .u64 ((Rg.nar ⟨⟨a, b⟩, ⟨c, d⟩⟩).u.lo), .int .u64 ((Rg.nar ⟨⟨a, b⟩, ⟨c, d⟩⟩).u.hi), .int .i64 ((Rg.nar ⟨⟨a, b⟩, ⟨c, d⟩⟩).s.lo), .int .i64 ((Rg.nar ⟨⟨a, b⟩, ⟨c, d⟩⟩).s.hi)], .bool (Rg.narB ⟨⟨a, b⟩, ⟨c, d⟩⟩)] : Value) = y0; intro s11); simp [execOp, Act.eval, s11]) ⟨_, rfl, tab_put rfl hs rfl rfl, hS.same 2 rfl⟩
       ·
        have s9 : ax.tmps.getD 9 undef = .tuple #[.agg #[.int .u64 ((Rg.nar ⟨⟨a, b⟩, ⟨c, d⟩⟩).u.lo), .int .u64 ((Rg.nar ⟨⟨a, b⟩, ⟨c, d⟩⟩).u.hi), .int .i64 ((Rg.nar ⟨⟨a, b⟩, ⟨c, d⟩⟩).s.lo), .int .i64 ((Rg.nar ⟨⟨a, b⟩, ⟨c, d⟩⟩).s.hi)], .bool (Rg.narB ⟨⟨a, b⟩, ⟨c, d⟩⟩)] := (hdone 0 _ rfl rfl).2 _ rfl
        exact wpOp_val (v := .agg #[.int .u64 ((Rg.nar ⟨⟨a, b⟩, ⟨c, d⟩⟩).u.lo), .int .u64 ((Rg.nar ⟨⟨a, b⟩, ⟨c, d⟩⟩).u.hi), .int .i64 ((Rg.nar ⟨⟨a, b⟩, ⟨c, d⟩⟩).s.lo), .int .i64 ((Rg.nar ⟨⟨a, b⟩, ⟨c, d⟩⟩).s.hi)]) (w' := wx) rfl rfl (by simp [execOp, Act.eval, s9, go_sem]) ⟨_, rfl, tab_put rfl hs rfl rfl, hS.same 3 rfl⟩
       ·
        have s9 : ax.tmps.getD 9 undef = .tuple #[.agg #[.int .u64 ((Rg.nar ⟨⟨a, b⟩, ⟨c, d⟩⟩).u.lo), .int .u64 ((Rg.nar ⟨⟨a, b⟩, ⟨c, d⟩⟩).u.hi), .int .i64 ((Rg.nar ⟨⟨a, b⟩, ⟨c, d⟩⟩).s.lo), .int .i64 ((Rg.nar ⟨⟨a, b⟩, ⟨c, d⟩⟩).s.hi)], .bool (Rg.narB ⟨⟨a, b⟩, ⟨c, d⟩⟩)] := (hdone 0 _ rfl rfl).2 _ rfl
        exact wpOp_val (v := .bool (Rg.narB ⟨⟨a, b⟩, ⟨c, d⟩⟩)) (w' := wx) rfl rfl (by simp [execOp, Act.eval, s9, go_sem]) ⟨_, rfl, tab_put rfl hs rfl (congrArg Value.bool Ffk1.out), hS.same 4 rfl⟩
       ·
        refine wpOp_val (v := .pointer (some ⟨wx.heap.size, 0, none⟩)) (w' := wx.alloc (.cells #[.int .u64 0, .int .u64 0, .int .i64 0, .int .i64 0] 60)) rfl rfl ?_ ⟨_, rfl, trivial, hS.alloc 5 5 60 #[.int .u64 0, .int .u64 0, .int .i64 0, .int .i64 0] [] [] (some 6) #[.int .u64 ((Rg.nar ⟨⟨a, b⟩, ⟨c, d⟩⟩).u.lo), .int .u64 ((Rg.nar ⟨⟨a, b⟩, ⟨c, d⟩⟩).u.hi), .int .i64 ((Rg.nar ⟨⟨a, b⟩, ⟨c, d⟩⟩).s.lo), .int .i64 ((Rg.nar ⟨⟨a, b⟩, ⟨c, d⟩⟩).s.hi)] rfl rfl rfl (by rw [hs]; omega) (not_yet clo hfi (by kernel_rfl))⟩
        · simp [execOp, Act.eval, go_sem]
       ·
        have hd5 := (hdone 0 _ rfl rfl).1
        obtain ⟨g2, s5, n5, r5⟩ := SX.rowA hS [] [] 5 5 60 _ _ 6 rfl hd5 hfi
        have s5 : ax.tmps.getD 5 undef = .pointer (some ⟨g2, 0, none⟩) := s5
        have s12 : ax.tmps.getD 12 undef = .agg #[.int .u64 ((Rg.nar ⟨⟨a, b⟩, ⟨c, d⟩⟩).u.lo), .int .u64 ((Rg.nar ⟨⟨a, b⟩, ⟨c, d⟩⟩).u.hi), .int .i64 ((Rg.nar ⟨⟨a, b⟩, ⟨c, d⟩⟩).s.lo), .int .i64 ((Rg.nar ⟨⟨a, b⟩, ⟨c, d⟩⟩).s.hi)] := (hdone 1 _ rfl rfl).2 _ rfl
        have hr : wx.heap[g2]? = some (.cells #[.int .u64 0, .int .u64 0, .int .i64 0, .int .i64 0] 60 (0, 0)) := r5
        exact wpOp_skp (w' := wx.setRow g2 #[.int .u64 ((Rg.nar ⟨⟨a, b⟩, ⟨c, d⟩⟩).u.lo), .int .u64 ((Rg.nar ⟨⟨a, b⟩, ⟨c, d⟩⟩).u.hi), .int .i64 ((Rg.nar ⟨⟨a, b⟩, ⟨c, d⟩⟩).s.lo), .int .i64 ((Rg.nar ⟨⟨a, b⟩, ⟨c, d⟩⟩).s.hi)]) rfl rfl (exec_storeR 60 _ _ rfl g2 #[.int .u64 ((Rg.nar ⟨⟨a, b⟩, ⟨c, d⟩⟩).u.lo), .int .u64 ((Rg.nar ⟨⟨a, b⟩, ⟨c, d⟩⟩).u.hi), .int .i64 ((Rg.nar ⟨⟨a, b⟩, ⟨c, d⟩⟩).s.lo), .int .i64 ((Rg.nar ⟨⟨a, b⟩, ⟨c, d⟩⟩).s.hi)] (show ax.eval (.tmp 5) = .pointer (some ⟨g2, 0, none⟩) from s5) (show ax.eval (.tmp 12) = .agg #[.int .u64 ((Rg.nar ⟨⟨a, b⟩, ⟨c, d⟩⟩).u.lo), .int .u64 ((Rg.nar ⟨⟨a, b⟩, ⟨c, d⟩⟩).u.hi), .int .i64 ((Rg.nar ⟨⟨a, b⟩, ⟨c, d⟩⟩).s.lo), .int .i64 ((Rg.nar ⟨⟨a, b⟩, ⟨c, d⟩⟩).s.hi)] from s12) hr (by kernel_rfl) rfl (by simp [Value.oneCell'])) ⟨undef, rfl, trivial, hS.storeA 6 5 5 60 #[.int .u64 0, .int .u64 0, .int .i64 0, .int .i64 0] #[.int .u64 ((Rg.nar ⟨⟨a, b⟩, ⟨c, d⟩⟩).u.lo), .int .u64 ((Rg.nar ⟨⟨a, b⟩, ⟨c, d⟩⟩).u.hi), .int .i64 ((Rg.nar ⟨⟨a, b⟩, ⟨c, d⟩⟩).s.lo), .int .i64 ((Rg.nar ⟨⟨a, b⟩, ⟨c, d⟩⟩).s.hi)] [] [] rfl B1.size hd5 g2 s5 (by decide) rfl (stored_setRow wx g2 _ _ _ hr)⟩
       ·
        have s13 : ax.tmps.getD 13 undef = .bool false := (hdone 0 _ rfl rfl).2 _ rfl
        exact wpOp_val (v := .bool false) (w' := wx) rfl rfl (by simp [execOp, Act.eval, s13]) ⟨_, rfl, tab_put rfl hs rfl rfl, hS.same 7 rfl⟩
     intro a2 w2 fl d2 z2 rest2 R2 hfl hS
     obtain ⟨B2, n2, hBs, hAs, hPs⟩ := hS.finish hfl rfl
     replace d2 := d2.trans d1
     replace z2 := z2.trans z1
     obtain ⟨⟨l_g1_2, b_g1_2⟩, -⟩ := hBs
     replace l_g1_2 : g1 < w1.heap.size := l_g1_2
     obtain ⟨⟨g2, u_g2, q_g2, b_g2_2⟩, -⟩ := hAs
     replace u_g2 : a2.tmps.getD 5 undef = .pointer (some ⟨g2, 0, none⟩) := u_g2
     have m_g2 : w1.heap.size ≤ g2 := q_g2
     replace q_g2 : W.heap.size ≤ g2 := Nat.le_trans B1.size q_g2
     have s1_2 := (rest2 1 (not_of (by kernel_rfl))).trans s1_1
     have s2_2 := (rest2 2 (not_of (by kernel_rfl))).trans u_g1
     have s4_2 := (rest2 4 (not_of (by kernel_rfl))).trans s4_1
     have s6_2 : a2.tmps.getD 6 undef = .bool false := R2 7 _ rfl
     clear R2 rest2 hS hfl hPs
     clear u_g1 s1_1 s4_1 b_g1_1 d1 z1
     refine wp_seq ?_
     refine wp_seq ?_
     refine wp_regx (SX W w2.heap.size [⟨g1, 60, (cR a b c d), none, #[]⟩, ⟨g2, 60, (cR ((Rg.nar ⟨⟨a, b⟩, ⟨c, d⟩⟩).u.lo) ((Rg.nar ⟨⟨a, b⟩, ⟨c, d⟩⟩).u.hi) ((Rg.nar ⟨⟨a, b⟩, ⟨c, d⟩⟩).s.lo) ((Rg.nar ⟨⟨a, b⟩, ⟨c, d⟩⟩).s.hi)), none, #[]⟩] []) (TabX [fun vx => vx = .bool false, fun vx => vx = .bool true]) (by kernel_rfl) (back_of (by kernel_rfl)) (dst_of (by kernel_rfl)) (in_ofz (by kernel_rfl) z2) (fun fl w1 hfl hw => SX.start' hw B2 hfl rfl ⟨b_g1_2, b_g2_2, trivial⟩) ?h3 ?_
     case h3 =>
       intro ix ox ax wx fl ho hS hfi clo hsz hrest hdone hund
       have t6 := (hrest 6 (not_of (by kernel_rfl))).trans s6_2
       have hs : ax.tmps.size = 60 := hsz.trans z2
       have hi : ix < 2 := (Array.getElem?_eq_some_iff.1 ho).1
       clear hrest hsz hund
       obtain rfl | rfl : ix = 0 ∨ ix = 1 := by omega
       all_goals obtain rfl := Option.some.inj (show some _ = some ox from ho)
       ·
        exact wpOp_val (v := .bool false) (w' := wx) rfl rfl (by simp [execOp, Act.eval, t6]) ⟨_, rfl, tab_put rfl hs rfl rfl, hS.same 0 rfl⟩
       ·
        have s14 : ax.tmps.getD 14 undef = .bool false := (hdone 0 _ rfl rfl).2 _ rfl
        exact wpOp_val (v := .bool true) (w' := wx) rfl rfl (by simp [execOp, Act.eval, s14, go_sem]) ⟨_, rfl, tab_put rfl hs rfl rfl, hS.same 1 rfl⟩
     intro a3 w3 fl d3 z3 rest3 R3 hfl hS
     obtain ⟨B3, n3, hBs, hAs, hPs⟩ := hS.finish hfl rfl
     replace d3 := d3.trans d2
     replace z3 := z3.trans z2
     obtain ⟨⟨-, b_g1_3⟩, ⟨l_g2_3, b_g2_3⟩, -⟩ := hBs
     replace l_g2_3 : g2 < w2.heap.size := l_g2_3
     have s1_3 := (rest3 1 (not_of (by kernel_rfl))).trans s1_2
     have s2_3 := (rest3 2 (not_of (by kernel_rfl))).trans s2_2
     have s4_3 := (rest3 4 (not_of (by kernel_rfl))).trans s4_2
     have s5_3 := (rest3 5 (not_of (by kernel_rfl))).trans u_g2
     have s15_3 : a3.tmps.getD 15 undef = .bool true := R3 1 _ rfl
     clear R3 rest3 hS hfl hPs hAs
     clear u_g2 s1_2 s2_2 s4_2 s6_2 b_g1_2 b_g2_2 d2 z2
     refine wp_cond_true (show a3.tmps.getD 15 undef = .bool true from s15_3) ?_
     refine wp_seq ?_
     refine wp_regx (SX W w3.heap.size [⟨g1, 60, (cR a b c d), none, #[]⟩, ⟨g2, 60, (cR ((Rg.nar ⟨⟨a, b⟩, ⟨c, d⟩⟩).u.lo) ((Rg.nar ⟨⟨a, b⟩, ⟨c, d⟩⟩).u.hi) ((Rg.nar ⟨⟨a, b⟩, ⟨c, d⟩⟩).s.lo) ((Rg.nar ⟨⟨a, b⟩, ⟨c, d⟩⟩).s.hi)), none, #[]⟩] []) (TabX [fun vx => vx = .agg #[.int .u64 a, .int .u64 b, .int .i64 c, .int .i64 d], fun vx => vx = .int .u64 v, fun vx => vx = .bool false, fun vx => vx = .bool true, fun vx => vx = .bool true, fun vx => vx = .agg #[.int .u64 ((Rg.nar ⟨⟨a, b⟩, ⟨c, d⟩⟩).u.lo), .int .u64 ((Rg.nar ⟨⟨a, b⟩, ⟨c, d⟩⟩).u.hi), .int .i64 ((Rg.nar ⟨⟨a, b⟩, ⟨c, d⟩⟩).s.lo), .int .i64 ((Rg.nar ⟨⟨a, b⟩, ⟨c, d⟩⟩).s.hi)], fun vx => vx = .agg #[.int .u64 allR.u.lo, .int .u64 allR.u.hi, .int .i64 allR.s.lo, .int .i64 allR.s.hi], fun vx => vx = .bool (eqR (Rg.nar ⟨⟨a, b⟩, ⟨c, d⟩⟩) allR), fun vx => vx = .bool true, fun vx => vx = .bool true, fun vx => vx = .bool true, fun vx => vx = .bool true, fun vx => vx = .bool true]) (by kernel_rfl) (back_of (by kernel_rfl)) (dst_of (by kernel_rfl)) (in_ofz (by kernel_rfl) z3) (fun fl w1 hfl hw => SX.start' hw B3 hfl rfl ⟨b_g1_3, b_g2_3, trivial⟩) ?h4 ?_
     case h4 =>
       intro ix ox ax wx fl ho hS hfi clo hsz hrest hdone hund
       have t1 := (hrest 1 (not_of (by kernel_rfl))).trans s1_3
       have t2 := (hrest 2 (not_of (by kernel_rfl))).trans s2_3
       have t5 := (hrest 5 (not_of (by kernel_rfl))).trans s5_3
       have hs : ax.tmps.size = 60 := hsz.trans z3
       have hi : ix < 13 := (Array.getElem?_eq_some_iff.1 ho).1
       clear hrest hsz hund
       obtain rfl | rfl | rfl | rfl | rfl | rfl | rfl | rfl | rfl | rfl | rfl | rfl | rfl : ix = 0 ∨ ix = 1 ∨ ix = 2 ∨ ix = 3 ∨ ix = 4 ∨ ix = 5 ∨ ix = 6 ∨ ix = 7 ∨ ix = 8 ∨ ix = 9 ∨ ix = 10 ∨ ix = 11 ∨ ix = 12 := by omega
       all_goals obtain rfl := Option.some.inj (show some _ = some ox from ho)
       ·
        have hr := hS.rowNi 0 rfl
        exact wpOp_val (v := .agg #[.int .u64 a, .int .u64 b, .int .i64 c, .int .i64 d]) (w' := wx) rfl rfl (exec_loadR 60 _ rfl g1 0 (show ax.eval (.tmp 2) = .pointer (some ⟨g1, 0, none⟩) from t2) hr [.int .u64 a, .int .u64 b, .int .i64 c, .int .i64 d] rfl _ Try.underlying60 rfl (by kernel_rfl)) ⟨_, rfl, tab_put rfl hs rfl rfl, hS.same 0 rfl⟩
       ·
        exact wpOp_val (v := .int .u64 v) (w' := wx) rfl rfl (by simp [execOp, Act.eval, t1]) ⟨_, rfl, tab_put rfl hs rfl rfl, hS.same 1 rfl⟩
       ·
        have s16 : ax.tmps.getD 16 undef = .agg #[.int .u64 a, .int .u64 b, .int .i64 c, .int .i64 d] := (hdone 0 _ rfl rfl).2 _ rfl
        have s17 : ax.tmps.getD 17 undef = .int .u64 v := (hdone 1 _ rfl rfl).2 _ rfl
        refine wpOp_call (args := #[.agg #[.int .u64 a, .int .u64 b, .int .i64 c, .int .i64 d], .int .u64 v]) rfl rfl (exec_call rfl rfl rfl (args2 (show ax.eval (.tmp 16) = .agg #[.int .u64 a, .int .u64 b, .int .i64 c, .int .i64 d] from s16) (show ax.eval (.tmp 17) = .int .u64 v from s17)) Try.func36 (by decide +kernel) rfl) ?_
        · refine (has_n a b c d v wx).mono ?_
          rintro e w' ⟨rfl, b9⟩
          exact ⟨_, rfl, _, rfl, tab_put rfl hs rfl (congrArg Value.bool (K1.out Ffk1.out)), hS.quiet 2 rfl b9⟩
       ·
        have s18 : ax.tmps.getD 18 undef = .bool false := (hdone 0 _ rfl rfl).2 _ rfl
        exact wpOp_val (v := .bool true) (w' := wx) rfl rfl (by simp [execOp, Act.eval, s18, go_sem]) ⟨_, rfl, tab_put rfl hs rfl rfl, hS.same 3 rfl⟩
       ·
        have s19 : ax.tmps.getD 19 undef = .bool true := (hdone 0 _ rfl rfl).2 _ rfl
        exact wpOp_val (v := .bool true) (w' := wx) rfl rfl (by simp [execOp, Act.eval, s19]) ⟨_, rfl, tab_put rfl hs rfl rfl, hS.same 4 rfl⟩
       ·
        have hg : ax.tmps.getD 20 undef = .bool true := (hdone 0 _ rfl rfl).2 _ rfl
        have hr := hS.rowNi 1 rfl
        exact wpOp_valw (v := .agg #[.int .u64 ((Rg.nar ⟨⟨a, b⟩, ⟨c, d⟩⟩).u.lo), .int .u64 ((Rg.nar ⟨⟨a, b⟩, ⟨c, d⟩⟩).u.hi), .int .i64 ((Rg.nar ⟨⟨a, b⟩, ⟨c, d⟩⟩).s.lo), .int .i64 ((Rg.nar ⟨⟨a, b⟩, ⟨c, d⟩⟩).s.hi)]) (w' := wx) rfl (wanted_yes 4 20 true hg (by rw [hs]; omega) rfl rfl rfl rfl) (exec_loadR 60 _ rfl g2 0 (show ax.eval (.tmp 5) = .pointer (some ⟨g2, 0, none⟩) from t5) hr [.int .u64 ((Rg.nar ⟨⟨a, b⟩, ⟨c, d⟩⟩).u.lo), .int .u64 ((Rg.nar ⟨⟨a, b⟩, ⟨c, d⟩⟩).u.hi), .int .i64 ((Rg.nar ⟨⟨a, b⟩, ⟨c, d⟩⟩).s.lo), .int .i64 ((Rg.nar ⟨⟨a, b⟩, ⟨c, d⟩⟩).s.hi)] rfl _ Try.underlying60 rfl (by kernel_rfl)) ⟨_, rfl, tab_put rfl hs rfl rfl, hS.same 5 rfl⟩
       ·
        have hg : ax.tmps.getD 20 undef = .bool true := (hdone 0 _ rfl rfl).2 _ rfl
        refine wpOp_callw (args := #[]) rfl (wanted_yes 4 20 true hg (by rw [hs]; omega) rfl rfl rfl rfl) (exec_call rfl rfl rfl (args0 ) Try.func32 (by decide +kernel) rfl) ?_
        · refine (all_n wx).mono ?_
          rintro e w' ⟨rfl, b9⟩
          exact ⟨_, rfl, _, rfl, tab_put rfl hs rfl rfl, hS.quiet 6 rfl b9⟩
       ·
        have hg : ax.tmps.getD 20 undef = .bool true := (hdone 2 _ rfl rfl).2 _ rfl
        have s21 : ax.tmps.getD 21 undef = .agg #[.int .u64 ((Rg.nar ⟨⟨a, b⟩, ⟨c, d⟩⟩).u.lo), .int .u64 ((Rg.nar ⟨⟨a, b⟩, ⟨c, d⟩⟩).u.hi), .int .i64 ((Rg.nar ⟨⟨a, b⟩, ⟨c, d⟩⟩).s.lo), .int .i64 ((Rg.nar ⟨⟨a, b⟩, ⟨c, d⟩⟩).s.hi)] := (hdone 0 _ rfl rfl).2 _ rfl
        have s22 : ax.tmps.getD 22 undef = .agg #[.int .u64 allR.u.lo, .int .u64 allR.u.hi, .int .i64 allR.s.lo, .int .i64 allR.s.hi] := (hdone 1 _ rfl rfl).2 _ rfl
        exact wpOp_valw (v := .bool (eqR (Rg.nar ⟨⟨a, b⟩, ⟨c, d⟩⟩) allR)) (w' := wx) rfl (wanted_yes 4 20 true hg (by rw [hs]; omega) rfl rfl rfl rfl) (exec_eql rfl (show ax.eval (.tmp 21) = Rg.val (Rg.nar ⟨⟨a, b⟩, ⟨c, d⟩⟩) from s21) (show ax.eval (.tmp 22) = Rg.val allR from s22) (by kernel_rfl) (eq_range (Rg.nar ⟨⟨a, b⟩, ⟨c, d⟩⟩) allR wx)) ⟨_, rfl, tab_put rfl hs rfl rfl, hS.same 7 rfl⟩
       ·
        have s20 : ax.tmps.getD 20 undef = .bool true := (hdone 0 _ rfl rfl).2 _ rfl
        have s23 : ax.tmps.getD 23 undef = .bool (eqR (Rg.nar ⟨⟨a, b⟩, ⟨c, d⟩⟩) allR) := (hdone 1 _ rfl rfl).2 _ rfl
        exact wpOp_val (v := .bool (eqR (Rg.nar ⟨⟨a, b⟩, ⟨c, d⟩⟩) allR)) (w' := wx) rfl rfl (by simp [execOp, Act.eval, s20, s23, go_sem]) ⟨_, rfl, tab_put rfl hs rfl (congrArg Value.bool (K2.out Ffk1.out)), hS.same 8 rfl⟩
       ·
        have s24 : ax.tmps.getD 24 undef = .bool true := (hdone 0 _ rfl rfl).2 _ rfl
        exact wpOp_val (v := .bool true) (w' := wx) rfl rfl (by simp [execOp, Act.eval, s24]) ⟨_, rfl, tab_put rfl hs rfl rfl, hS.same 9 rfl⟩
       ·
        have hg : ax.tmps.getD 25 undef = .bool true := (hdone 0 _ rfl rfl).2 _ rfl
        refine wpOp_callw (args := #[]) rfl (wanted_yes 9 25 true hg (by rw [hs]; omega) rfl rfl rfl rfl) (exec_call rfl rfl rfl (args0 ) Try.func46 (by decide +kernel) rfl) ?_
        · refine (wakes_n wx).mono ?_
          rintro e w' ⟨rfl, b9⟩
          exact ⟨_, rfl, _, rfl, tab_put rfl hs rfl rfl, hS.quiet 10 rfl b9⟩
       ·
        have s25 : ax.tmps.getD 25 undef = .bool true := (hdone 0 _ rfl rfl).2 _ rfl
        have s26 : ax.tmps.getD 26 undef = .bool true := (hdone 1 _ rfl rfl).2 _ rfl
        exact wpOp_val (v := .bool true) (w' := wx) rfl rfl (by simp [execOp, Act.eval, s25, s26, go_sem]) ⟨_, rfl, tab_put rfl hs rfl rfl, hS.same 11 rfl⟩
       ·
        have s27 : ax.tmps.getD 27 undef = .bool true := (hdone 0 _ rfl rfl).2 _ rfl
        exact wpOp_val (v := .bool true) (w' := wx) rfl rfl (by simp [execOp, Act.eval, s27]) ⟨_, rfl, tab_put rfl hs rfl rfl, hS.same 12 rfl⟩
     intro a4 w4 fl d4 z4 rest4 R4 hfl hS
     obtain ⟨B4, n4, hBs, hAs, hPs⟩ := hS.finish hfl rfl
     replace d4 := d4.trans d3
     replace z4 := z4.trans z3
     obtain ⟨⟨-, b_g1_4⟩, ⟨-, b_g2_4⟩, -⟩ := hBs
     have s1_4 := (rest4 1 (not_of (by kernel_rfl))).trans s1_3
     have s2_4 := (rest4 2 (not_of (by kernel_rfl))).trans s2_3
     have s4_4 : a4.tmps.getD 4 undef = .bool true := R4 12 _ rfl
     have s5_4 := (rest4 5 (not_of (by kernel_rfl))).trans s5_3
     clear R4 rest4 hS hfl hPs hAs
     clear s1_3 s2_3 s4_3 s5_3 s15_3 b_g1_3 b_g2_3 d3 z3
     refine wp_ret ?_
     try simp only [Exit.inBlock, Exit.then]
     refine bodyPost_ret (res_t (fn := Try.f10) rfl s4_4) d4 ?_
     exact ⟨rfl, B4⟩
    have Ffk1 := Lib.hid fk1; clear fk1
    refine wp_regx (SX W w1.heap.size [⟨g1, 60, (cR a b c d), none, #[]⟩] [⟨5, 5, 60, (cR 0 0 0 0), some 6, (cR ((Rg.nar ⟨⟨a, b⟩, ⟨c, d⟩⟩).u.lo) ((Rg.nar ⟨⟨a, b⟩, ⟨c, d⟩⟩).u.hi) ((Rg.nar ⟨⟨a, b⟩, ⟨c, d⟩⟩).s.lo) ((Rg.nar ⟨⟨a, b⟩, ⟨c, d⟩⟩).s.hi))⟩]) (TabX [fun vx => vx = .agg #[.int .u64 a, .int .u64 b, .int .i64 c, .int .i64 d], fun vx => vx = .tuple #[.agg #[.int .u64 ((Rg.nar ⟨⟨a, b⟩, ⟨c, d⟩⟩).u.lo), .int .u64 ((Rg.nar ⟨⟨a, b⟩, ⟨c, d⟩⟩).u.hi), .int .i64 ((Rg.nar ⟨⟨a, b⟩, ⟨c, d⟩⟩).s.lo), .int .i64 ((Rg.nar ⟨⟨a, b⟩, ⟨c, d⟩⟩).s.hi)], .bool (Rg.narB ⟨⟨a, b⟩, ⟨c, d⟩⟩)], fun vx => vx = .tuple #[.agg #[.int .u64 ((Rg.nar ⟨⟨a, b⟩, ⟨c, d⟩⟩).u.lo), .int .u64 ((Rg.nar ⟨⟨a, b⟩, ⟨c, d⟩⟩).u.hi), .int .i64 ((Rg.nar ⟨⟨a, b⟩, ⟨c, d⟩⟩).s.lo), .int .i64 ((Rg.nar ⟨⟨a, b⟩, ⟨c, d⟩⟩).s.hi)], .bool (Rg.narB ⟨⟨a, b⟩, ⟨c, d⟩⟩)], fun vx => vx = .agg #[.int .u64 ((Rg.nar ⟨⟨a, b⟩, ⟨c, d⟩⟩).u.lo), .int .u64 ((Rg.nar ⟨⟨a, b⟩, ⟨c, d⟩⟩).u.hi), .int .i64 ((Rg.nar ⟨⟨a, b⟩, ⟨c, d⟩⟩).s.lo), .int .i64 ((Rg.nar ⟨⟨a, b⟩, ⟨c, d⟩⟩).s.hi)], fun vx => vx = .bool true, fun _ => True, fun _ => True, fun vx => vx = .bool true]) (by kernel_rfl) (back_of (by kernel_rfl)) (dst_of (by kernel_rfl)) (in_ofz (by kernel_rfl) z1) (fun fl w1 hfl hw => SX.start' hw B1 hfl rfl ⟨b_g1_1, trivial⟩) ?h5 ?_
    case h5 =>
      intro ix ox ax wx fl ho hS hfi clo hsz hrest hdone hund
      have t2 := (hrest 2 (not_of (by kernel_rfl))).trans u_g1
      have hs : ax.tmps.size = 60 := hsz.trans z1
      have hi : ix < 8 := (Array.getElem?_eq_some_iff.1 ho).1
      clear hrest hsz hund
      obtain rfl | rfl | rfl | rfl | rfl | rfl | rfl | rfl : ix = 0 ∨ ix = 1 ∨ ix = 2 ∨ ix = 3 ∨ ix = 4 ∨ ix = 5 ∨ ix = 6 ∨ ix = 7 := by omega
      all_goals obtain rfl := Option.some.inj (show some _ = some ox from ho)
      ·
       have hr := hS.rowNi 0 rfl
       exact wpOp_val (v := .agg #[.int .u64 a, .int .u64 b, .int .i64 c, .int .i64 d]) (w' := wx) rfl rfl (exec_loadR 60 _ rfl g1 0 (show ax.eval (.tmp 2) = .pointer (some ⟨g1, 0, none⟩) from t2) hr [.int .u64 a, .int .u64 b, .int .i64 c, .int .i64 d] rfl _ Try.underlying60 rfl (by kernel_rfl)) ⟨_, rfl, tab_put rfl hs rfl rfl, hS.same 0 rfl⟩
      ·
       have s10 : ax.tmps.getD 10 undef = .agg #[.int .u64 a, .int .u64 b, .int .i64 c, .int .i64 d] := (hdone 0 _ rfl rfl).2 _ rfl
       refine wpOp_call (args := #[.agg #[.int .u64 a, .int .u64 b, .int .i64 c, .int .i64 d]]) rfl rfl (exec_call rfl rfl rfl (args1 (show ax.eval (.tmp 10) = .agg #[.int .u64 a, .int .u64 b, .int .i64 c, .int .i64 d] from s10)) Try.func28 (by decide +kernel) rfl) ?_
       · refine (narrow_n a b c d wx HO.out).mono ?_
         rintro e w' ⟨rfl, b9⟩
         exact ⟨_, rfl, _, rfl, tab_put rfl hs rfl rfl, hS.quiet 1 rfl b9⟩
      ·
       have s11 : ax.tmps.getD 11 undef = .tuple #[.agg #[.int .u64 ((Rg.nar ⟨⟨a, b⟩, ⟨c, d⟩⟩).u.lo), .int .u64 ((Rg.nar ⟨⟨a, b⟩, ⟨c, d⟩⟩).u.hi), .int .i64 ((Rg.nar ⟨⟨a, b⟩, ⟨c, d⟩⟩).s.lo), .int .i64 ((Rg.nar ⟨⟨a, b⟩, ⟨c, d⟩⟩).s.hi)], .bool (Rg.narB ⟨⟨a, b⟩, ⟨c, d⟩⟩)] := (hdone 0 _ rfl rfl).2 _ rfl
       exact wpOp_val (v := .tuple #[.agg #[.int .u64 ((Rg.nar ⟨⟨a, b⟩, ⟨c, d⟩⟩).u.lo), .int .u64 ((Rg.nar ⟨⟨a, b⟩, ⟨c, d⟩⟩).u.hi), .int .i64 ((Rg.nar ⟨⟨a, b⟩, ⟨c, d⟩⟩).s.lo), .int .i64 ((Rg.nar ⟨⟨a, b⟩, ⟨c, d⟩⟩).s.hi)], .bool (Rg.narB ⟨⟨a, b⟩, ⟨c, d⟩⟩)]) (w' := wx) rfl rfl (by (revert s11; generalize (.tuple #[.agg #[.int .u64 ((Rg.nar ⟨⟨a, b⟩, ⟨c, d⟩⟩).u.lo), .int .u64 ((Rg.nar ⟨⟨a, b⟩, ⟨c, d⟩⟩).u.hi), .int .i64 ((Rg.nar ⟨⟨a, b⟩, ⟨c, d⟩⟩).s.lo), .int .i64 ((Rg.nar ⟨⟨a, b⟩, ⟨c, d⟩⟩).s.hi)], .bool (Rg.narB ⟨⟨a, b⟩, ⟨c, d⟩⟩)] : Value) = y0; intro s11); simp [execOp, Act.eval, s11]) ⟨_, rfl, tab_put rfl hs rfl rfl, hS.same 2 rfl⟩
      ·
       have s9 : ax.tmps.getD 9 undef = .tuple #[.agg #[.int .u64 ((Rg.nar ⟨⟨a, b⟩, ⟨c, d⟩⟩).u.lo), .int .u64 ((Rg.nar ⟨⟨a, b⟩, ⟨c, d⟩⟩).u.hi), .int .i64 ((Rg.nar ⟨⟨a, b⟩, ⟨c, d⟩⟩).s.lo), .int .i64 ((Rg.nar ⟨⟨a, b⟩, ⟨c, d⟩⟩).s.hi)], .bool (Rg.narB ⟨⟨a, b⟩, ⟨c, d⟩⟩)] := (hdone 0 _ rfl rfl).2 _ rfl
       exact wpOp_val (v := .agg #[.int .u64 ((Rg.nar ⟨⟨a, b⟩, ⟨c, d⟩⟩).u.lo), .int .u64 ((Rg.nar ⟨⟨a, b⟩, ⟨c, d⟩⟩).u.hi), .int .i64 ((Rg.nar ⟨⟨a, b⟩, ⟨c, d⟩⟩).s.lo), .int .i64 ((Rg.nar ⟨⟨a, b⟩, ⟨c, d⟩⟩).s.hi)]) (w' := wx) rfl rfl (by simp [execOp, Act.eval, s9, go_sem]) ⟨_, rfl, tab_put rfl hs rfl rfl, hS.same 3 rfl⟩
      ·
       have s9 : ax.tmps.getD 9 undef = .tuple #[.agg #[.int .u64 ((Rg.nar ⟨⟨a, b⟩, ⟨c, d⟩⟩).u.lo), .int .u64 ((Rg.nar ⟨⟨a, b⟩, ⟨c, d⟩⟩).u.hi), .int .i64 ((Rg.nar ⟨⟨a, b⟩, ⟨c, d⟩⟩).s.lo), .int .i64 ((Rg.nar ⟨⟨a, b⟩, ⟨c, d⟩⟩).s.hi)], .bool (Rg.narB ⟨⟨a, b⟩, ⟨c, d⟩⟩)] := (hdone 0 _ rfl rfl).2 _ rfl
       exact wpOp_val (v := .bool (Rg.narB ⟨⟨a, b⟩, ⟨c, d⟩⟩)) (w' := wx) rfl rfl (by simp [execOp, Act.eval, s9, go_sem]) ⟨_, rfl, tab_put rfl hs rfl (congrArg Value.bool Ffk1.out), hS.same 4 rfl⟩
      ·
       refine wpOp_val (v := .pointer (some ⟨wx.heap.size, 0, none⟩)) (w' := wx.alloc (.cells #[.int .u64 0, .int .u64 0, .int .i64 0, .int .i64 0] 60)) rfl rfl ?_ ⟨_, rfl, trivial, hS.alloc 5 5 60 #[.int .u64 0, .int .u64 0, .int .i64 0, .int .i64 0] [] [] (some 6) #[.int .u64 ((Rg.nar ⟨⟨a, b⟩, ⟨c, d⟩⟩).u.lo), .int .u64 ((Rg.nar ⟨⟨a, b⟩, ⟨c, d⟩⟩).u.hi), .int .i64 ((Rg.nar ⟨⟨a, b⟩, ⟨c, d⟩⟩).s.lo), .int .i64 ((Rg.nar ⟨⟨a, b⟩, ⟨c, d⟩⟩).s.hi)] rfl rfl rfl (by rw [hs]; omega) (not_yet clo hfi (by kernel_rfl))⟩
       · simp [execOp, Act.eval, go_sem]
      ·
       have hd5 := (hdone 0 _ rfl rfl).1
       obtain ⟨g2, s5, n5, r5⟩ := SX.rowA hS [] [] 5 5 60 _ _ 6 rfl hd5 hfi
       have s5 : ax.tmps.getD 5 undef = .pointer (some ⟨g2, 0, none⟩) := s5
       have s12 : ax.tmps.getD 12 undef = .agg #[.int .u64 ((Rg.nar ⟨⟨a, b⟩, ⟨c, d⟩⟩).u.lo), .int .u64 ((Rg.nar ⟨⟨a, b⟩, ⟨c, d⟩⟩).u.hi), .int .i64 ((Rg.nar ⟨⟨a, b⟩, ⟨c, d⟩⟩).s.lo), .int .i64 ((Rg.nar ⟨⟨a, b⟩, ⟨c, d⟩⟩).s.hi)] := (hdone 1 _ rfl rfl).2 _ rfl
       have hr : wx.heap[g2]? = some (.cells #[.int .u64 0, .int .u64 0, .int .i64 0, .int .i64 0] 60 (0, 0)) := r5
       exact wpOp_skp (w' := wx.setRow g2 #[.int .u64 ((Rg.nar ⟨⟨a, b⟩, ⟨c, d⟩⟩).u.lo), .int .u64 ((Rg.nar ⟨⟨a, b⟩, ⟨c, d⟩⟩).u.hi), .int .i64 ((Rg.nar ⟨⟨a, b⟩, ⟨c, d⟩⟩).s.lo), .int .i64 ((Rg.nar ⟨⟨a, b⟩, ⟨c, d⟩⟩).s.hi)]) rfl rfl (exec_storeR 60 _ _ rfl g2 #[.int .u64 ((Rg.nar ⟨⟨a, b⟩, ⟨c, d⟩⟩).u.lo), .int .u64 ((Rg.nar ⟨⟨a, b⟩, ⟨c, d⟩⟩).u.hi), .int .i64 ((Rg.nar ⟨⟨a, b⟩, ⟨c, d⟩⟩).s.lo), .int .i64 ((Rg.nar ⟨⟨a, b⟩, ⟨c, d⟩⟩).s.hi)] (show ax.eval (.tmp 5) = .pointer (some ⟨g2, 0, none⟩) from s5) (show ax.eval (.tmp 12) = .agg #[.int .u64 ((Rg.nar ⟨⟨a, b⟩, ⟨c, d⟩⟩).u.lo), .int .u64 ((Rg.nar ⟨⟨a, b⟩, ⟨c, d⟩⟩).u.hi), .int .i64 ((Rg.nar ⟨⟨a, b⟩, ⟨c, d⟩⟩).s.lo), .int .i64 ((Rg.nar ⟨⟨a, b⟩, ⟨c, d⟩⟩).s.hi)] from s12) hr (by kernel_rfl) rfl (by simp [Value.oneCell'])) ⟨undef, rfl, trivial, hS.storeA 6 5 5 60 #[.int .u64 0, .int .u64 0, .int .i64 0, .int .i64 0] #[.int .u64 ((Rg.nar ⟨⟨a, b⟩, ⟨c, d⟩⟩).u.lo), .int .u64 ((Rg.nar ⟨⟨a, b⟩, ⟨c, d⟩⟩).u.hi), .int .i64 ((Rg.nar ⟨⟨a, b⟩, ⟨c, d⟩⟩).s.lo), .int .i64 ((Rg.nar ⟨⟨a, b⟩, ⟨c, d⟩⟩).s.hi)] [] [] rfl B1.size hd5 g2 s5 (by decide) rfl (stored_setRow wx g2 _ _ _ hr)⟩
      ·
       have s13 : ax.tmps.getD 13 undef = .bool true := (hdone 0 _ rfl rfl).2 _ rfl
       exact wpOp_val (v := .bool true) (w' := wx) rfl rfl (by simp [execOp, Act.eval, s13]) ⟨_, rfl, tab_put rfl hs rfl rfl, hS.same 7 rfl⟩
    intro a2 w2 fl d2 z2 rest2 R2 hfl hS
    obtain ⟨B2, n2, hBs, hAs, hPs⟩ := hS.finish hfl rfl
    replace d2 := d2.trans d1
    replace z2 := z2.trans z1
    obtain ⟨⟨l_g1_2, b_g1_2⟩, -⟩ := hBs
    replace l_g1_2 : g1 < w1.heap.size := l_g1_2
    obtain ⟨⟨g2, u_g2, q_g2, b_g2_2⟩, -⟩ := hAs
    replace u_g2 : a2.tmps.getD 5 undef = .pointer (some ⟨g2, 0, none⟩) := u_g2
    have m_g2 : w1.heap.size ≤ g2 := q_g2
    replace q_g2 : W.heap.size ≤ g2 := Nat.le_trans B1.size q_g2
    have s1_2 := (rest2 1 (not_of (by kernel_rfl))).trans s1_1
    have s2_2 := (rest2 2 (not_of (by kernel_rfl))).trans u_g1
    have s4_2 := (rest2 4 (not_of (by kernel_rfl))).trans s4_1
    have s6_2 : a2.tmps.getD 6 undef = .bool true := R2 7 _ rfl
    clear R2 rest2 hS hfl hPs
    clear u_g1 s1_1 s4_1 b_g1_1 d1 z1
    refine wp_seq ?_
    refine wp_seq ?_
    refine wp_regx (SX W w2.heap.size [⟨g1, 60, (cR a b c d), none, #[]⟩, ⟨g2, 60, (cR ((Rg.nar ⟨⟨a, b⟩, ⟨c, d⟩⟩).u.lo) ((Rg.nar ⟨⟨a, b⟩, ⟨c, d⟩⟩).u.hi) ((Rg.nar ⟨⟨a, b⟩, ⟨c, d⟩⟩).s.lo) ((Rg.nar ⟨⟨a, b⟩, ⟨c, d⟩⟩).s.hi)), none, #[]⟩] []) (TabX [fun vx => vx = .bool true, fun vx => vx = .bool false]) (by kernel_rfl) (back_of (by kernel_rfl)) (dst_of (by kernel_rfl)) (in_ofz (by kernel_rfl) z2) (fun fl w1 hfl hw => SX.start' hw B2 hfl rfl ⟨b_g1_2, b_g2_2, trivial⟩) ?h6 ?_
    case h6 =>
      intro ix ox ax wx fl ho hS hfi clo hsz hrest hdone hund
      have t6 := (hrest 6 (not_of (by kernel_rfl))).trans s6_2
      have hs : ax.tmps.size = 60 := hsz.trans z2
      have hi : ix < 2 := (Array.getElem?_eq_some_iff.1 ho).1
      clear hrest hsz hund
      obtain rfl | rfl : ix = 0 ∨ ix = 1 := by omega
      all_goals obtain rfl := Option.some.inj (show some _ = some ox from ho)
      ·
       exact wpOp_val (v := .bool true) (w' := wx) rfl rfl (by simp [execOp, Act.eval, t6]) ⟨_, rfl, tab_put rfl hs rfl rfl, hS.same 0 rfl⟩
      ·
       have s14 : ax.tmps.getD 14 undef = .bool true := (hdone 0 _ rfl rfl).2 _ rfl
       exact wpOp_val (v := .bool false) (w' := wx) rfl rfl (by simp [execOp, Act.eval, s14, go_sem]) ⟨_, rfl, tab_put rfl hs rfl rfl, hS.same 1 rfl⟩
    intro a3 w3 fl d3 z3 rest3 R3 hfl hS
    obtain ⟨B3, n3, hBs, hAs, hPs⟩ := hS.finish hfl rfl
    replace d3 := d3.trans d2
    replace z3 := z3.trans z2
    obtain ⟨⟨-, b_g1_3⟩, ⟨l_g2_3, b_g2_3⟩, -⟩ := hBs
    replace l_g2_3 : g2 < w2.heap.size := l_g2_3
    have s1_3 := (rest3 1 (not_of (by kernel_rfl))).trans s1_2
    have s2_3 := (rest3 2 (not_of (by kernel_rfl))).trans s2_2
    have s4_3 := (rest3 4 (not_of (by kernel_rfl))).trans s4_2
    have s5_3 := (rest3 5 (not_of (by kernel_rfl))).trans u_g2
    have s15_3 : a3.tmps.getD 15 undef = .bool false := R3 1 _ rfl
    clear R3 rest3 hS hfl hPs hAs
    clear u_g2 s1_2 s2_2 s4_2 s6_2 b_g1_2 b_g2_2 d2 z2
    refine wp_cond_false (show a3.tmps.getD 15 undef = .bool false from s15_3) ?_
    refine wp_skip ?_
    refine wp_seq ?_
    cases fk2 : Rg.oneB (Rg.nar ⟨⟨a, b⟩, ⟨c, d⟩⟩)
    case false =>
     have Ffk2 := Lib.hid fk2; clear fk2
     refine wp_regx (SX W w3.heap.size [⟨g1, 60, (cR a b c d), none, #[]⟩, ⟨g2, 60, (cR ((Rg.nar ⟨⟨a, b⟩, ⟨c, d⟩⟩).u.lo) ((Rg.nar ⟨⟨a, b⟩, ⟨c, d⟩⟩).u.hi) ((Rg.nar ⟨⟨a, b⟩, ⟨c, d⟩⟩).s.lo) ((Rg.nar ⟨⟨a, b⟩, ⟨c, d⟩⟩).s.hi)), none, #[]⟩] []) (TabX [fun vx => vx = .agg #[.int .u64 ((Rg.nar ⟨⟨a, b⟩, ⟨c, d⟩⟩).u.lo), .int .u64 ((Rg.nar ⟨⟨a, b⟩, ⟨c, d⟩⟩).u.hi), .int .i64 ((Rg.nar ⟨⟨a, b⟩, ⟨c, d⟩⟩).s.lo), .int .i64 ((Rg.nar ⟨⟨a, b⟩, ⟨c, d⟩⟩).s.hi)], fun vx => vx = .tuple #[.int .u64 (Rg.oneV (Rg.nar ⟨⟨a, b⟩, ⟨c, d⟩⟩)), .bool (Rg.oneB (Rg.nar ⟨⟨a, b⟩, ⟨c, d⟩⟩))], fun vx => vx = .tuple #[.int .u64 (Rg.oneV (Rg.nar ⟨⟨a, b⟩, ⟨c, d⟩⟩)), .bool (Rg.oneB (Rg.nar ⟨⟨a, b⟩, ⟨c, d⟩⟩))], fun vx => vx = .int .u64 (Rg.oneV (Rg.nar ⟨⟨a, b⟩, ⟨c, d⟩⟩)), fun vx => vx = .bool false, fun vx => vx = .int .u64 (Rg.oneV (Rg.nar ⟨⟨a, b⟩, ⟨c, d⟩⟩)), fun vx => vx = .bool false]) (by kernel_rfl) (back_of (by kernel_rfl)) (dst_of (by kernel_rfl)) (in_ofz (by kernel_rfl) z3) (fun fl w1 hfl hw => SX.start' hw B3 hfl rfl ⟨b_g1_3, b_g2_3, trivial⟩) ?h7 ?_
     case h7 =>
       intro ix ox ax wx fl ho hS hfi clo hsz hrest hdone hund
       have t5 := (hrest 5 (not_of (by kernel_rfl))).trans s5_3
       have hs : ax.tmps.size = 60 := hsz.trans z3
       have hi : ix < 7 := (Array.getElem?_eq_some_iff.1 ho).1
       clear hrest hsz hund
       obtain rfl | rfl | rfl | rfl | rfl | rfl | rfl : ix = 0 ∨ ix = 1 ∨ ix = 2 ∨ ix = 3 ∨ ix = 4 ∨ ix = 5 ∨ ix = 6 := by omega
       all_goals obtain rfl := Option.some.inj (show some _ = some ox from ho)
       ·
        have hr := hS.rowNi 1 rfl
        exact wpOp_val (v := .agg #[.int .u64 ((Rg.nar ⟨⟨a, b⟩, ⟨c, d⟩⟩).u.lo), .int .u64 ((Rg.nar ⟨⟨a, b⟩, ⟨c, d⟩⟩).u.hi), .int .i64 ((Rg.nar ⟨⟨a, b⟩, ⟨c, d⟩⟩).s.lo), .int .i64 ((Rg.nar ⟨⟨a, b⟩, ⟨c, d⟩⟩).s.hi)]) (w' := wx) rfl rfl (exec_loadR 60 _ rfl g2 0 (show ax.eval (.tmp 5) = .pointer (some ⟨g2, 0, none⟩) from t5) hr [.int .u64 ((Rg.nar ⟨⟨a, b⟩, ⟨c, d⟩⟩).u.lo), .int .u64 ((Rg.nar ⟨⟨a, b⟩, ⟨c, d⟩⟩).u.hi), .int .i64 ((Rg.nar ⟨⟨a, b⟩, ⟨c, d⟩⟩).s.lo), .int .i64 ((Rg.nar ⟨⟨a, b⟩, ⟨c, d⟩⟩).s.hi)] rfl _ Try.underlying60 rfl (by kernel_rfl)) ⟨_, rfl, tab_put rfl hs rfl rfl, hS.same 0 rfl⟩
       ·
        have s29 : ax.tmps.getD 29 undef = .agg #[.int .u64 ((Rg.nar ⟨⟨a, b⟩, ⟨c, d⟩⟩).u.lo), .int .u64 ((Rg.nar ⟨⟨a, b⟩, ⟨c, d⟩⟩).u.hi), .int .i64 ((Rg.nar ⟨⟨a, b⟩, ⟨c, d⟩⟩).s.lo), .int .i64 ((Rg.nar ⟨⟨a, b⟩, ⟨c, d⟩⟩).s.hi)] := (hdone 0 _ rfl rfl).2 _ rfl
        refine wpOp_call (args := #[.agg #[.int .u64 ((Rg.nar ⟨⟨a, b⟩, ⟨c, d⟩⟩).u.lo), .int .u64 ((Rg.nar ⟨⟨a, b⟩, ⟨c, d⟩⟩).u.hi), .int .i64 ((Rg.nar ⟨⟨a, b⟩, ⟨c, d⟩⟩).s.lo), .int .i64 ((Rg.nar ⟨⟨a, b⟩, ⟨c, d⟩⟩).s.hi)]]) rfl rfl (exec_call rfl rfl rfl (args1 (show ax.eval (.tmp 29) = .agg #[.int .u64 ((Rg.nar ⟨⟨a, b⟩, ⟨c, d⟩⟩).u.lo), .int .u64 ((Rg.nar ⟨⟨a, b⟩, ⟨c, d⟩⟩).u.hi), .int .i64 ((Rg.nar ⟨⟨a, b⟩, ⟨c, d⟩⟩).s.lo), .int .i64 ((Rg.nar ⟨⟨a, b⟩, ⟨c, d⟩⟩).s.hi)] from s29)) Try.func26 (by decide +kernel) rfl) ?_
        · refine (single_n ((Rg.nar ⟨⟨a, b⟩, ⟨c, d⟩⟩).u.lo) ((Rg.nar ⟨⟨a, b⟩, ⟨c, d⟩⟩).u.hi) ((Rg.nar ⟨⟨a, b⟩, ⟨c, d⟩⟩).s.lo) ((Rg.nar ⟨⟨a, b⟩, ⟨c, d⟩⟩).s.hi) wx).mono ?_
          rintro e w' ⟨rfl, b9⟩
          exact ⟨_, rfl, _, rfl, tab_put rfl hs rfl rfl, hS.quiet 1 rfl b9⟩
       ·
        have s30 : ax.tmps.getD 30 undef = .tuple #[.int .u64 (Rg.oneV (Rg.nar ⟨⟨a, b⟩, ⟨c, d⟩⟩)), .bool (Rg.oneB (Rg.nar ⟨⟨a, b⟩, ⟨c, d⟩⟩))] := (hdone 0 _ rfl rfl).2 _ rfl
        exact wpOp_val (v := .tuple #[.int .u64 (Rg.oneV (Rg.nar ⟨⟨a, b⟩, ⟨c, d⟩⟩)), .bool (Rg.oneB (Rg.nar ⟨⟨a, b⟩, ⟨c, d⟩⟩))]) (w' := wx) rfl rfl (by (revert s30; generalize (.tuple #[.int .u64 (Rg.oneV (Rg.nar ⟨⟨a, b⟩, ⟨c, d⟩⟩)), .bool (Rg.oneB (Rg.nar ⟨⟨a, b⟩, ⟨c, d⟩⟩))] : Value) = y0; intro s30); simp [execOp, Act.eval, s30]) ⟨_, rfl, tab_put rfl hs rfl rfl, hS.same 2 rfl⟩
       ·
        have s28 : ax.tmps.getD 28 undef = .tuple #[.int .u64 (Rg.oneV (Rg.nar ⟨⟨a, b⟩, ⟨c, d⟩⟩)), .bool (Rg.oneB (Rg.nar ⟨⟨a, b⟩, ⟨c, d⟩⟩))] := (hdone 0 _ rfl rfl).2 _ rfl
        exact wpOp_val (v := .int .u64 (Rg.oneV (Rg.nar ⟨⟨a, b⟩, ⟨c, d⟩⟩))) (w' := wx) rfl rfl (by simp [execOp, Act.eval, s28, go_sem]) ⟨_, rfl, tab_put rfl hs rfl rfl, hS.same 3 rfl⟩
       ·
        have s28 : ax.tmps.getD 28 undef = .tuple #[.int .u64 (Rg.oneV (Rg.nar ⟨⟨a, b⟩, ⟨c, d⟩⟩)), .bool (Rg.oneB (Rg.nar ⟨⟨a, b⟩, ⟨c, d⟩⟩))] := (hdone 0 _ rfl rfl).2 _ rfl
        exact wpOp_val (v := .bool (Rg.oneB (Rg.nar ⟨⟨a, b⟩, ⟨c, d⟩⟩))) (w' := wx) rfl rfl (by simp [execOp, Act.eval, s28, go_sem]) ⟨_, rfl, tab_put rfl hs rfl (congrArg Value.bool Ffk2.out), hS.same 4 rfl⟩
       ·
        have s31 : ax.tmps.getD 31 undef = .int .u64 (Rg.oneV (Rg.nar ⟨⟨a, b⟩, ⟨c, d⟩⟩)) := (hdone 0 _ rfl rfl).2 _ rfl
        exact wpOp_val (v := .int .u64 (Rg.oneV (Rg.nar ⟨⟨a, b⟩, ⟨c, d⟩⟩))) (w' := wx) rfl rfl (by simp [execOp, Act.eval, s31]) ⟨_, rfl, tab_put rfl hs rfl rfl, hS.same 5 rfl⟩
       ·
        have s32 : ax.tmps.getD 32 undef = .bool false := (hdone 0 _ rfl rfl).2 _ rfl
        exact wpOp_val (v := .bool false) (w' := wx) rfl rfl (by simp [execOp, Act.eval, s32]) ⟨_, rfl, tab_put rfl hs rfl rfl, hS.same 6 rfl⟩
     intro a4 w4 fl d4 z4 rest4 R4 hfl hS
     obtain ⟨B4, n4, hBs, hAs, hPs⟩ := hS.finish hfl rfl
     replace d4 := d4.trans d3
     replace z4 := z4.trans z3
     obtain ⟨⟨-, b_g1_4⟩, ⟨-, b_g2_4⟩, -⟩ := hBs
     have s1_4 := (rest4 1 (not_of (by kernel_rfl))).trans s1_3
     have s2_4 := (rest4 2 (not_of (by kernel_rfl))).trans s2_3
     have s4_4 := (rest4 4 (not_of (by kernel_rfl))).trans s4_3
     have s5_4 := (rest4 5 (not_of (by kernel_rfl))).trans s5_3
     have s7_4 : a4.tmps.getD 7 undef = .int .u64 (Rg.oneV (Rg.nar ⟨⟨a, b⟩, ⟨c, d⟩⟩)) := R4 5 _ rfl
     have s8_4 : a4.tmps.getD 8 undef = .bool false := R4 6 _ rfl
     clear R4 rest4 hS hfl hPs hAs
     clear s1_3 s2_3 s4_3 s5_3 s15_3 b_g1_3 b_g2_3 d3 z3
     refine wp_seq ?_
     refine wp_regx (SX W w4.heap.size [⟨g1, 60, (cR a b c d), none, #[]⟩, ⟨g2, 60, (cR ((Rg.nar ⟨⟨a, b⟩, ⟨c, d⟩⟩).u.lo) ((Rg.nar ⟨⟨a, b⟩, ⟨c, d⟩⟩).u.hi) ((Rg.nar ⟨⟨a, b⟩, ⟨c, d⟩⟩).s.lo) ((Rg.nar ⟨⟨a, b⟩, ⟨c, d⟩⟩).s.hi)), none, #[]⟩] []) (TabX [fun vx => vx = .agg #[.int .u64 ((Rg.nar ⟨⟨a, b⟩, ⟨c, d⟩⟩).u.lo), .int .u64 ((Rg.nar ⟨⟨a, b⟩, ⟨c, d⟩⟩).u.hi), .int .i64 ((Rg.nar ⟨⟨a, b⟩, ⟨c, d⟩⟩).s.lo), .int .i64 ((Rg.nar ⟨⟨a, b⟩, ⟨c, d⟩⟩).s.hi)], fun vx => vx = .bool true, fun vx => vx = .bool true, fun vx => vx = .agg #[.int .u64 ((Rg.nar ⟨⟨a, b⟩, ⟨c, d⟩⟩).u.lo), .int .u64 ((Rg.nar ⟨⟨a, b⟩, ⟨c, d⟩⟩).u.hi), .int .i64 ((Rg.nar ⟨⟨a, b⟩, ⟨c, d⟩⟩).s.lo), .int .i64 ((Rg.nar ⟨⟨a, b⟩, ⟨c, d⟩⟩).s.hi)], fun vx => vx = .int .u64 v, fun vx => vx = .bool true, fun vx => vx = .agg #[.int .u64 a, .int .u64 b, .int .i64 c, .int .i64 d], fun vx => vx = .int .u64 v, fun vx => vx = .bool true, fun vx => vx = .bool true, fun vx => vx = .bool true, fun vx => vx = .bool true, fun vx => vx = .bool false, fun vx => vx = .bool true, fun vx => vx = .bool true, fun vx => vx = undef, fun vx => vx = undef, fun vx => vx = undef, fun vx => vx = undef, fun vx => vx = undef, fun vx => vx = undef, fun vx => vx = undef, fun vx => vx = .bool true, fun vx => vx = .bool true, fun vx => vx = .bool true, fun vx => vx = .bool true, fun vx => vx = .bool true, fun vx => vx = .bool true]) (by kernel_rfl) (back_of (by kernel_rfl)) (dst_of (by kernel_rfl)) (in_ofz (by kernel_rfl) z4) (fun fl w1 hfl hw => SX.start' hw B4 hfl rfl ⟨b_g1_4, b_g2_4, trivial⟩) ?h8 ?_
     case h8 =>
       intro ix ox ax wx fl ho hS hfi clo hsz hrest hdone hund
       have t1 := (hrest 1 (not_of (by kernel_rfl))).trans s1_4
       have t2 := (hrest 2 (not_of (by kernel_rfl))).trans s2_4
       have t5 := (hrest 5 (not_of (by kernel_rfl))).trans s5_4
       have t7 := (hrest 7 (not_of (by kernel_rfl))).trans s7_4
       have t8 := (hrest 8 (not_of (by kernel_rfl))).trans s8_4
       have hs : ax.tmps.size = 60 := hsz.trans z4
       have hi : ix < 28 := (Array.getElem?_eq_some_iff.1 ho).1
       clear hrest hsz hund
       obtain rfl | rfl | rfl | rfl | rfl | rfl | rfl | rfl | rfl | rfl | rfl | rfl | rfl | rfl | rfl | rfl | rfl | rfl | rfl | rfl | rfl | rfl | rfl | rfl | rfl | rfl | rfl | rfl : ix = 0 ∨ ix = 1 ∨ ix = 2 ∨ ix = 3 ∨ ix = 4 ∨ ix = 5 ∨ ix = 6 ∨ ix = 7 ∨ ix = 8 ∨ ix = 9 ∨ ix = 10 ∨ ix = 11 ∨ ix = 12 ∨ ix = 13 ∨ ix = 14 ∨ ix = 15 ∨ ix = 16 ∨ ix = 17 ∨ ix = 18 ∨ ix = 19 ∨ ix = 20 ∨ ix = 21 ∨ ix = 22 ∨ ix = 23 ∨ ix = 24 ∨ ix = 25 ∨ ix = 26 ∨ ix = 27 := by omega
       all_goals obtain rfl := Option.some.inj (show some _ = some ox from ho)
       ·
        have hr := hS.rowNi 1 rfl
        exact wpOp_val (v := .agg #[.int .u64 ((Rg.nar ⟨⟨a, b⟩, ⟨c, d⟩⟩).u.lo), .int .u64 ((Rg.nar ⟨⟨a, b⟩, ⟨c, d⟩⟩).u.hi), .int .i64 ((Rg.nar ⟨⟨a, b⟩, ⟨c, d⟩⟩).s.lo), .int .i64 ((Rg.nar ⟨⟨a, b⟩, ⟨c, d⟩⟩).s.hi)]) (w' := wx) rfl rfl (exec_loadR 60 _ rfl g2 0 (show ax.eval (.tmp 5) = .pointer (some ⟨g2, 0, none⟩) from t5) hr [.int .u64 ((Rg.nar ⟨⟨a, b⟩, ⟨c, d⟩⟩).u.lo), .int .u64 ((Rg.nar ⟨⟨a, b⟩, ⟨c, d⟩⟩).u.hi), .int .i64 ((Rg.nar ⟨⟨a, b⟩, ⟨c, d⟩⟩).s.lo), .int .i64 ((Rg.nar ⟨⟨a, b⟩, ⟨c, d⟩⟩).s.hi)] rfl _ Try.underlying60 rfl (by kernel_rfl)) ⟨_, rfl, tab_put rfl hs rfl rfl, hS.same 0 rfl⟩
       ·
        have s33 : ax.tmps.getD 33 undef = .agg #[.int .u64 ((Rg.nar ⟨⟨a, b⟩, ⟨c, d⟩⟩).u.lo), .int .u64 ((Rg.nar ⟨⟨a, b⟩, ⟨c, d⟩⟩).u.hi), .int .i64 ((Rg.nar ⟨⟨a, b⟩, ⟨c, d⟩⟩).s.lo), .int .i64 ((Rg.nar ⟨⟨a, b⟩, ⟨c, d⟩⟩).s.hi)] := (hdone 0 _ rfl rfl).2 _ rfl
        refine wpOp_call (args := #[.agg #[.int .u64 ((Rg.nar ⟨⟨a, b⟩, ⟨c, d⟩⟩).u.lo), .int .u64 ((Rg.nar ⟨⟨a, b⟩, ⟨c, d⟩⟩).u.hi), .int .i64 ((Rg.nar ⟨⟨a, b⟩, ⟨c, d⟩⟩).s.lo), .int .i64 ((Rg.nar ⟨⟨a, b⟩, ⟨c, d⟩⟩).s.hi)]]) rfl rfl (exec_call rfl rfl rfl (args1 (show ax.eval (.tmp 33) = .agg #[.int .u64 ((Rg.nar ⟨⟨a, b⟩, ⟨c, d⟩⟩).u.lo), .int .u64 ((Rg.nar ⟨⟨a, b⟩, ⟨c, d⟩⟩).u.hi), .int .i64 ((Rg.nar ⟨⟨a, b⟩, ⟨c, d⟩⟩).s.lo), .int .i64 ((Rg.nar ⟨⟨a, b⟩, ⟨c, d⟩⟩).s.hi)] from s33)) Try.func30 (by decide +kernel) rfl) ?_
        · refine (may_n ((Rg.nar ⟨⟨a, b⟩, ⟨c, d⟩⟩).u.lo) ((Rg.nar ⟨⟨a, b⟩, ⟨c, d⟩⟩).u.hi) ((Rg.nar ⟨⟨a, b⟩, ⟨c, d⟩⟩).s.lo) ((Rg.nar ⟨⟨a, b⟩, ⟨c, d⟩⟩).s.hi) wx).mono ?_
          rintro e w' ⟨rfl, b9⟩
          exact ⟨_, rfl, _, rfl, tab_put rfl hs rfl (congrArg Value.bool (K3.out Ffk1.out)), hS.quiet 1 rfl b9⟩
       ·
        have s34 : ax.tmps.getD 34 undef = .bool true := (hdone 0 _ rfl rfl).2 _ rfl
        exact wpOp_val (v := .bool true) (w' := wx) rfl rfl (by simp [execOp, Act.eval, s34]) ⟨_, rfl, tab_put rfl hs rfl rfl, hS.same 2 rfl⟩
       ·
        have hg : ax.tmps.getD 35 undef = .bool true := (hdone 0 _ rfl rfl).2 _ rfl
        have hr := hS.rowNi 1 rfl
        exact wpOp_valw (v := .agg #[.int .u64 ((Rg.nar ⟨⟨a, b⟩, ⟨c, d⟩⟩).u.lo), .int .u64 ((Rg.nar ⟨⟨a, b⟩, ⟨c, d⟩⟩).u.hi), .int .i64 ((Rg.nar ⟨⟨a, b⟩, ⟨c, d⟩⟩).s.lo), .int .i64 ((Rg.nar ⟨⟨a, b⟩, ⟨c, d⟩⟩).s.hi)]) (w' := wx) rfl (wanted_yes 2 35 true hg (by rw [hs]; omega) rfl rfl rfl rfl) (exec_loadR 60 _ rfl g2 0 (show ax.eval (.tmp 5) = .pointer (some ⟨g2, 0, none⟩) from t5) hr [.int .u64 ((Rg.nar ⟨⟨a, b⟩, ⟨c, d⟩⟩).u.lo), .int .u64 ((Rg.nar ⟨⟨a, b⟩, ⟨c, d⟩⟩).u.hi), .int .i64 ((Rg.nar ⟨⟨a, b⟩, ⟨c, d⟩⟩).s.lo), .int .i64 ((Rg.nar ⟨⟨a, b⟩, ⟨c, d⟩⟩).s.hi)] rfl _ Try.underlying60 rfl (by kernel_rfl)) ⟨_, rfl, tab_put rfl hs rfl rfl, hS.same 3 rfl⟩
       ·
        have hg : ax.tmps.getD 35 undef = .bool true := (hdone 0 _ rfl rfl).2 _ rfl
        exact wpOp_valw (v := .int .u64 v) (w' := wx) rfl (wanted_yes 2 35 true hg (by rw [hs]; omega) rfl rfl rfl rfl) (by simp [execOp, Act.eval, t1]) ⟨_, rfl, tab_put rfl hs rfl rfl, hS.same 4 rfl⟩
       ·
        have hg : ax.tmps.getD 35 undef = .bool true := (hdone 2 _ rfl rfl).2 _ rfl
        have s36 : ax.tmps.getD 36 undef = .agg #[.int .u64 ((Rg.nar ⟨⟨a, b⟩, ⟨c, d⟩⟩).u.lo), .int .u64 ((Rg.nar ⟨⟨a, b⟩, ⟨c, d⟩⟩).u.hi), .int .i64 ((Rg.nar ⟨⟨a, b⟩, ⟨c, d⟩⟩).s.lo), .int .i64 ((Rg.nar ⟨⟨a, b⟩, ⟨c, d⟩⟩).s.hi)] := (hdone 0 _ rfl rfl).2 _ rfl
        have s37 : ax.tmps.getD 37 undef = .int .u64 v := (hdone 1 _ rfl rfl).2 _ rfl
        refine wpOp_callw (args := #[.agg #[.int .u64 ((Rg.nar ⟨⟨a, b⟩, ⟨c, d⟩⟩).u.lo), .int .u64 ((Rg.nar ⟨⟨a, b⟩, ⟨c, d⟩⟩).u.hi), .int .i64 ((Rg.nar ⟨⟨a, b⟩, ⟨c, d⟩⟩).s.lo), .int .i64 ((Rg.nar ⟨⟨a, b⟩, ⟨c, d⟩⟩).s.hi)], .int .u64 v]) rfl (wanted_yes 2 35 true hg (by rw [hs]; omega) rfl rfl rfl rfl) (exec_call rfl rfl rfl (args2 (show ax.eval (.tmp 36) = .agg #[.int .u64 ((Rg.nar ⟨⟨a, b⟩, ⟨c, d⟩⟩).u.lo), .int .u64 ((Rg.nar ⟨⟨a, b⟩, ⟨c, d⟩⟩).u.hi), .int .i64 ((Rg.nar ⟨⟨a, b⟩, ⟨c, d⟩⟩).s.lo), .int .i64 ((Rg.nar ⟨⟨a, b⟩, ⟨c, d⟩⟩).s.hi)] from s36) (show ax.eval (.tmp 37) = .int .u64 v from s37)) Try.func36 (by decide +kernel) rfl) ?_
        · refine (has_n ((Rg.nar ⟨⟨a, b⟩, ⟨c, d⟩⟩).u.lo) ((Rg.nar ⟨⟨a, b⟩, ⟨c, d⟩⟩).u.hi) ((Rg.nar ⟨⟨a, b⟩, ⟨c, d⟩⟩).s.lo) ((Rg.nar ⟨⟨a, b⟩, ⟨c, d⟩⟩).s.hi) v wx).mono ?_
          rintro e w' ⟨rfl, b9⟩
          exact ⟨_, rfl, _, rfl, tab_put rfl hs rfl (congrArg Value.bool ((K4.out Ffk1.out).trans FV.out)), hS.quiet 5 rfl b9⟩
       ·
        have hg : ax.tmps.getD 35 undef = .bool true := (hdone 0 _ rfl rfl).2 _ rfl
        have hr := hS.rowNi 0 rfl
        exact wpOp_valw (v := .agg #[.int .u64 a, .int .u64 b, .int .i64 c, .int .i64 d]) (w' := wx) rfl (wanted_yes 2 35 true hg (by rw [hs]; omega) rfl rfl rfl rfl) (exec_loadR 60 _ rfl g1 0 (show ax.eval (.tmp 2) = .pointer (some ⟨g1, 0, none⟩) from t2) hr [.int .u64 a, .int .u64 b, .int .i64 c, .int .i64 d] rfl _ Try.underlying60 rfl (by kernel_rfl)) ⟨_, rfl, tab_put rfl hs rfl rfl, hS.same 6 rfl⟩
       ·
        have hg : ax.tmps.getD 35 undef = .bool true := (hdone 0 _ rfl rfl).2 _ rfl
        exact wpOp_valw (v := .int .u64 v) (w' := wx) rfl (wanted_yes 2 35 true hg (by rw [hs]; omega) rfl rfl rfl rfl) (by simp [execOp, Act.eval, t1]) ⟨_, rfl, tab_put rfl hs rfl rfl, hS.same 7 rfl⟩
       ·
        have hg : ax.tmps.getD 35 undef = .bool true := (hdone 3 _ rfl rfl).2 _ rfl
        have s39 : ax.tmps.getD 39 undef = .agg #[.int .u64 a, .int .u64 b, .int .i64 c, .int .i64 d] := (hdone 0 _ rfl rfl).2 _ rfl
        have s40 : ax.tmps.getD 40 undef = .int .u64 v := (hdone 1 _ rfl rfl).2 _ rfl
        refine wpOp_callw (args := #[.agg #[.int .u64 a, .int .u64 b, .int .i64 c, .int .i64 d], .int .u64 v]) rfl (wanted_yes 2 35 true hg (by rw [hs]; omega) rfl rfl rfl rfl) (exec_call rfl rfl rfl (args2 (show ax.eval (.tmp 39) = .agg #[.int .u64 a, .int .u64 b, .int .i64 c, .int .i64 d] from s39) (show ax.eval (.tmp 40) = .int .u64 v from s40)) Try.func36 (by decide +kernel) rfl) ?_
        · refine (has_n a b c d v wx).mono ?_
          rintro e w' ⟨rfl, b9⟩
          exact ⟨_, rfl, _, rfl, tab_put rfl hs rfl (congrArg Value.bool FV.out), hS.quiet 8 rfl b9⟩
       ·
        have hg : ax.tmps.getD 35 undef = .bool true := (hdone 2 _ rfl rfl).2 _ rfl
        have s38 : ax.tmps.getD 38 undef = .bool true := (hdone 0 _ rfl rfl).2 _ rfl
        have s41 : ax.tmps.getD 41 undef = .bool true := (hdone 1 _ rfl rfl).2 _ rfl
        exact wpOp_valw (v := .bool true) (w' := wx) rfl (wanted_yes 2 35 true hg (by rw [hs]; omega) rfl rfl rfl rfl) (by (simp [execOp, Act.eval, s38, s41, go_sem]; try (simp only [IntKind.wrap_i64, wrap64]))) ⟨_, rfl, tab_put rfl hs rfl rfl, hS.same 9 rfl⟩
       ·
        have s35 : ax.tmps.getD 35 undef = .bool true := (hdone 0 _ rfl rfl).2 _ rfl
        have s42 : ax.tmps.getD 42 undef = .bool true := (hdone 1 _ rfl rfl).2 _ rfl
        exact wpOp_val (v := .bool true) (w' := wx) rfl rfl (by simp [execOp, Act.eval, s35, s42, go_sem]) ⟨_, rfl, tab_put rfl hs rfl rfl, hS.same 10 rfl⟩
       ·
        have s43 : ax.tmps.getD 43 undef = .bool true := (hdone 0 _ rfl rfl).2 _ rfl
        exact wpOp_val (v := .bool true) (w' := wx) rfl rfl (by simp [execOp, Act.eval, s43]) ⟨_, rfl, tab_put rfl hs rfl rfl, hS.same 11 rfl⟩
       ·
        have hg : ax.tmps.getD 44 undef = .bool true := (hdone 0 _ rfl rfl).2 _ rfl
        exact wpOp_valw (v := .bool false) (w' := wx) rfl (wanted_yes 11 44 true hg (by rw [hs]; omega) rfl rfl rfl rfl) (by simp [execOp, Act.eval, t8]) ⟨_, rfl, tab_put rfl hs rfl rfl, hS.same 12 rfl⟩
       ·
        have hg : ax.tmps.getD 44 undef = .bool true := (hdone 1 _ rfl rfl).2 _ rfl
        have s45 : ax.tmps.getD 45 undef = .bool false := (hdone 0 _ rfl rfl).2 _ rfl
        exact wpOp_valw (v := .bool true) (w' := wx) rfl (wanted_yes 11 44 true hg (by rw [hs]; omega) rfl rfl rfl rfl) (by simp [execOp, Act.eval, s45, go_sem]) ⟨_, rfl, tab_put rfl hs rfl rfl, hS.same 13 rfl⟩
       ·
        have hg : ax.tmps.getD 44 undef = .bool true := (hdone 1 _ rfl rfl).2 _ rfl
        have s46 : ax.tmps.getD 46 undef = .bool true := (hdone 0 _ rfl rfl).2 _ rfl
        exact wpOp_valw (v := .bool true) (w' := wx) rfl (wanted_yes 11 44 true hg (by rw [hs]; omega) rfl rfl rfl rfl) (by simp [execOp, Act.eval, s46]) ⟨_, rfl, tab_put rfl hs rfl rfl, hS.same 14 rfl⟩
       ·
        have hg : ax.tmps.getD 47 undef = .bool true := (hdone 0 _ rfl rfl).2 _ rfl
        exact wpOp_no rfl (wanted_no 14 47 true hg (by rw [hs]; omega) rfl rfl rfl rfl) ⟨_, rfl, tab_put rfl hs rfl rfl, hS.same 15 rfl⟩
       ·
        have hg : ax.tmps.getD 47 undef = .bool true := (hdone 0 _ rfl rfl).2 _ rfl
        exact wpOp_no rfl (wanted_no 14 47 true hg (by rw [hs]; omega) rfl rfl rfl rfl) ⟨_, rfl, tab_put rfl hs rfl rfl, hS.same 16 rfl⟩
       ·
        have hg : ax.tmps.getD 47 undef = .bool true := (hdone 2 _ rfl rfl).2 _ rfl
        exact wpOp_no rfl (wanted_no 14 47 true hg (by rw [hs]; omega) rfl rfl rfl rfl) ⟨_, rfl, tab_put rfl hs rfl rfl, hS.same 17 rfl⟩
       ·
        have hg : ax.tmps.getD 47 undef = .bool true := (hdone 0 _ rfl rfl).2 _ rfl
        exact wpOp_no rfl (wanted_no 14 47 true hg (by rw [hs]; omega) rfl rfl rfl rfl) ⟨_, rfl, tab_put rfl hs rfl rfl, hS.same 18 rfl⟩
       ·
        have hg : ax.tmps.getD 47 undef = .bool true := (hdone 0 _ rfl rfl).2 _ rfl
        exact wpOp_no rfl (wanted_no 14 47 true hg (by rw [hs]; omega) rfl rfl rfl rfl) ⟨_, rfl, tab_put rfl hs rfl rfl, hS.same 19 rfl⟩
       ·
        have hg : ax.tmps.getD 47 undef = .bool true := (hdone 2 _ rfl rfl).2 _ rfl
        exact wpOp_no rfl (wanted_no 14 47 true hg (by rw [hs]; omega) rfl rfl rfl rfl) ⟨_, rfl, tab_put rfl hs rfl rfl, hS.same 20 rfl⟩
       ·
        have hg : ax.tmps.getD 47 undef = .bool true := (hdone 2 _ rfl rfl).2 _ rfl
        exact wpOp_no rfl (wanted_no 14 47 true hg (by rw [hs]; omega) rfl rfl rfl rfl) ⟨_, rfl, tab_put rfl hs rfl rfl, hS.same 21 rfl⟩
       ·
        have hg : ax.tmps.getD 44 undef = .bool true := (hdone 2 _ rfl rfl).2 _ rfl
        have s47 : ax.tmps.getD 47 undef = .bool true := (hdone 0 _ rfl rfl).2 _ rfl
        have s54 : ax.tmps.getD 54 undef = undef := (hdone 1 _ rfl rfl).2 _ rfl
        exact wpOp_valw (v := .bool true) (w' := wx) rfl (wanted_yes 11 44 true hg (by rw [hs]; omega) rfl rfl rfl rfl) (by simp [execOp, Act.eval, s47, s54, go_sem]) ⟨_, rfl, tab_put rfl hs rfl rfl, hS.same 22 rfl⟩
       ·
        have s44 : ax.tmps.getD 44 undef = .bool true := (hdone 0 _ rfl rfl).2 _ rfl
        have s55 : ax.tmps.getD 55 undef = .bool true := (hdone 1 _ rfl rfl).2 _ rfl
        exact wpOp_val (v := .bool true) (w' := wx) rfl rfl (by simp [execOp, Act.eval, s44, s55, go_sem]) ⟨_, rfl, tab_put rfl hs rfl rfl, hS.same 23 rfl⟩
       ·
        have s56 : ax.tmps.getD 56 undef = .bool true := (hdone 0 _ rfl rfl).2 _ rfl
        exact wpOp_val (v := .bool true) (w' := wx) rfl rfl (by simp [execOp, Act.eval, s56]) ⟨_, rfl, tab_put rfl hs rfl rfl, hS.same 24 rfl⟩
       ·
        have hg : ax.tmps.getD 57 undef = .bool true := (hdone 0 _ rfl rfl).2 _ rfl
        refine wpOp_callw (args := #[]) rfl (wanted_yes 24 57 true hg (by rw [hs]; omega) rfl rfl rfl rfl) (exec_call rfl rfl rfl (args0 ) Try.func46 (by decide +kernel) rfl) ?_
        · refine (wakes_n wx).mono ?_
          rintro e w' ⟨rfl, b9⟩
          exact ⟨_, rfl, _, rfl, tab_put rfl hs rfl rfl, hS.quiet 25 rfl b9⟩
       ·
        have s57 : ax.tmps.getD 57 undef = .bool true := (hdone 0 _ rfl rfl).2 _ rfl
        have s58 : ax.tmps.getD 58 undef = .bool true := (hdone 1 _ rfl rfl).2 _ rfl
        exact wpOp_val (v := .bool true) (w' := wx) rfl rfl (by simp [execOp, Act.eval, s57, s58, go_sem]) ⟨_, rfl, tab_put rfl hs rfl rfl, hS.same 26 rfl⟩
       ·
        have s59 : ax.tmps.getD 59 undef = .bool true := (hdone 0 _ rfl rfl).2 _ rfl
        exact wpOp_val (v := .bool true) (w' := wx) rfl rfl (by simp [execOp, Act.eval, s59]) ⟨_, rfl, tab_put rfl hs rfl rfl, hS.same 27 rfl⟩
     intro a5 w5 fl d5 z5 rest5 R5 hfl hS
     obtain ⟨B5, n5, hBs, hAs, hPs⟩ := hS.finish hfl rfl
     replace d5 := d5.trans d4
     replace z5 := z5.trans z4
     obtain ⟨⟨-, b_g1_5⟩, ⟨-, b_g2_5⟩, -⟩ := hBs
     have s4_5 : a5.tmps.getD 4 undef = .bool true := R5 27 _ rfl
     clear R5 rest5 hS hfl hPs hAs
     clear s1_4 s2_4 s4_4 s5_4 s7_4 s8_4 b_g1_4 b_g2_4 d4 z4
     refine wp_ret ?_
     try simp only [Exit.inBlock, Exit.then]
     refine bodyPost_ret (res_t (fn := Try.f10) rfl s4_5) d5 ?_
     exact ⟨rfl, B5⟩
    have Ffk2 := Lib.hid fk2; clear fk2
    refine wp_regx (SX W w3.heap.size [⟨g1, 60, (cR a b c d), none, #[]⟩, ⟨g2, 60, (cR ((Rg.nar ⟨⟨a, b⟩, ⟨c, d⟩⟩).u.lo) ((Rg.nar ⟨⟨a, b⟩, ⟨c, d⟩⟩).u.hi) ((Rg.nar ⟨⟨a, b⟩, ⟨c, d⟩⟩).s.lo) ((Rg.nar ⟨⟨a, b⟩, ⟨c, d⟩⟩).s.hi)), none, #[]⟩] []) (TabX [fun vx => vx = .agg #[.int .u64 ((Rg.nar ⟨⟨a, b⟩, ⟨c, d⟩⟩).u.lo), .int .u64 ((Rg.nar ⟨⟨a, b⟩, ⟨c, d⟩⟩).u.hi), .int .i64 ((Rg.nar ⟨⟨a, b⟩, ⟨c, d⟩⟩).s.lo), .int .i64 ((Rg.nar ⟨⟨a, b⟩, ⟨c, d⟩⟩).s.hi)], fun vx => vx = .tuple #[.int .u64 (Rg.oneV (Rg.nar ⟨⟨a, b⟩, ⟨c, d⟩⟩)), .bool (Rg.oneB (Rg.nar ⟨⟨a, b⟩, ⟨c, d⟩⟩))], fun vx => vx = .tuple #[.int .u64 (Rg.oneV (Rg.nar ⟨⟨a, b⟩, ⟨c, d⟩⟩)), .bool (Rg.oneB (Rg.nar ⟨⟨a, b⟩, ⟨c, d⟩⟩))], fun vx => vx = .int .u64 (Rg.oneV (Rg.nar ⟨⟨a, b⟩, ⟨c, d⟩⟩)), fun vx => vx = .bool true, fun vx => vx = .int .u64 (Rg.oneV (Rg.nar ⟨⟨a, b⟩, ⟨c, d⟩⟩)), fun vx => vx = .bool true]) (by kernel_rfl) (back_of (by kernel_rfl)) (dst_of (by kernel_rfl)) (in_ofz (by kernel_rfl) z3) (fun fl w1 hfl hw => SX.start' hw B3 hfl rfl ⟨b_g1_3, b_g2_3, trivial⟩) ?h9 ?_
    case h9 =>
      intro ix ox ax wx fl ho hS hfi clo hsz hrest hdone hund
      have t5 := (hrest 5 (not_of (by kernel_rfl))).trans s5_3
      have hs : ax.tmps.size = 60 := hsz.trans z3
      have hi : ix < 7 := (Array.getElem?_eq_some_iff.1 ho).1
      clear hrest hsz hund
      obtain rfl | rfl | rfl | rfl | rfl | rfl | rfl : ix = 0 ∨ ix = 1 ∨ ix = 2 ∨ ix = 3 ∨ ix = 4 ∨ ix = 5 ∨ ix = 6 := by omega
      all_goals obtain rfl := Option.some.inj (show some _ = some ox from ho)
      ·
       have hr := hS.rowNi 1 rfl
       exact wpOp_val (v := .agg #[.int .u64 ((Rg.nar ⟨⟨a, b⟩, ⟨c, d⟩⟩).u.lo), .int .u64 ((Rg.nar ⟨⟨a, b⟩, ⟨c, d⟩⟩).u.hi), .int .i64 ((Rg.nar ⟨⟨a, b⟩, ⟨c, d⟩⟩).s.lo), .int .i64 ((Rg.nar ⟨⟨a, b⟩, ⟨c, d⟩⟩).s.hi)]) (w' := wx) rfl rfl (exec_loadR 60 _ rfl g2 0 (show ax.eval (.tmp 5) = .pointer (some ⟨g2, 0, none⟩) from t5) hr [.int .u64 ((Rg.nar ⟨⟨a, b⟩, ⟨c, d⟩⟩).u.lo), .int .u64 ((Rg.nar ⟨⟨a, b⟩, ⟨c, d⟩⟩).u.hi), .int .i64 ((Rg.nar ⟨⟨a, b⟩, ⟨c, d⟩⟩).s.lo), .int .i64 ((Rg.nar ⟨⟨a, b⟩, ⟨c, d⟩⟩).s.hi)] rfl _ Try.underlying60 rfl (by kernel_rfl)) ⟨_, rfl, tab_put rfl hs rfl rfl, hS.same 0 rfl⟩
      ·
       have s29 : ax.tmps.getD 29 undef = .agg #[.int .u64 ((Rg.nar ⟨⟨a, b⟩, ⟨c, d⟩⟩).u.lo), .int .u64 ((Rg.nar ⟨⟨a, b⟩, ⟨c, d⟩⟩).u.hi), .int .i64 ((Rg.nar ⟨⟨a, b⟩, ⟨c, d⟩⟩).s.lo), .int .i64 ((Rg.nar ⟨⟨a, b⟩, ⟨c, d⟩⟩).s.hi)] := (hdone 0 _ rfl rfl).2 _ rfl
       refine wpOp_call (args := #[.agg #[.int .u64 ((Rg.nar ⟨⟨a, b⟩, ⟨c, d⟩⟩).u.lo), .int .u64 ((Rg.nar ⟨⟨a, b⟩, ⟨c, d⟩⟩).u.hi), .int .i64 ((Rg.nar ⟨⟨a, b⟩, ⟨c, d⟩⟩).s.lo), .int .i64 ((Rg.nar ⟨⟨a, b⟩, ⟨c, d⟩⟩).s.hi)]]) rfl rfl (exec_call rfl rfl rfl (args1 (show ax.eval (.tmp 29) = .agg #[.int .u64 ((Rg.nar ⟨⟨a, b⟩, ⟨c, d⟩⟩).u.lo), .int .u64 ((Rg.nar ⟨⟨a, b⟩, ⟨c, d⟩⟩).u.hi), .int .i64 ((Rg.nar ⟨⟨a, b⟩, ⟨c, d⟩⟩).s.lo), .int .i64 ((Rg.nar ⟨⟨a, b⟩, ⟨c, d⟩⟩).s.hi)] from s29)) Try.func26 (by decide +kernel) rfl) ?_
       · refine (single_n ((Rg.nar ⟨⟨a, b⟩, ⟨c, d⟩⟩).u.lo) ((Rg.nar ⟨⟨a, b⟩, ⟨c, d⟩⟩).u.hi) ((Rg.nar ⟨⟨a, b⟩, ⟨c, d⟩⟩).s.lo) ((Rg.nar ⟨⟨a, b⟩, ⟨c, d⟩⟩).s.hi) wx).mono ?_
         rintro e w' ⟨rfl, b9⟩
         exact ⟨_, rfl, _, rfl, tab_put rfl hs rfl rfl, hS.quiet 1 rfl b9⟩
      ·
       have s30 : ax.tmps.getD 30 undef = .tuple #[.int .u64 (Rg.oneV (Rg.nar ⟨⟨a, b⟩, ⟨c, d⟩⟩)), .bool (Rg.oneB (Rg.nar ⟨⟨a, b⟩, ⟨c, d⟩⟩))] := (hdone 0 _ rfl rfl).2 _ rfl
       exact wpOp_val (v := .tuple #[.int .u64 (Rg.oneV (Rg.nar ⟨⟨a, b⟩, ⟨c, d⟩⟩)), .bool (Rg.oneB (Rg.nar ⟨⟨a, b⟩, ⟨c, d⟩⟩))]) (w' := wx) rfl rfl (by (revert s30; generalize (.tuple #[.int .u64 (Rg.oneV (Rg.nar ⟨⟨a, b⟩, ⟨c, d⟩⟩)), .bool (Rg.oneB (Rg.nar ⟨⟨a, b⟩, ⟨c, d⟩⟩))] : Value) = y0; intro s30); simp [execOp, Act.eval, s30]) ⟨_, rfl, tab_put rfl hs rfl rfl, hS.same 2 rfl⟩
      ·
       have s28 : ax.tmps.getD 28 undef = .tuple #[.int .u64 (Rg.oneV (Rg.nar ⟨⟨a, b⟩, ⟨c, d⟩⟩)), .bool (Rg.oneB (Rg.nar ⟨⟨a, b⟩, ⟨c, d⟩⟩))] := (hdone 0 _ rfl rfl).2 _ rfl
       exact wpOp_val (v := .int .u64 (Rg.oneV (Rg.nar ⟨⟨a, b⟩, ⟨c, d⟩⟩))) (w' := wx) rfl rfl (by simp [execOp, Act.eval, s28, go_sem]) ⟨_, rfl, tab_put rfl hs rfl rfl, hS.same 3 rfl⟩
      ·
       have s28 : ax.tmps.getD 28 undef = .tuple #[.int .u64 (Rg.oneV (Rg.nar ⟨⟨a, b⟩, ⟨c, d⟩⟩)), .bool (Rg.oneB (Rg.nar ⟨⟨a, b⟩, ⟨c, d⟩⟩))] := (hdone 0 _ rfl rfl).2 _ rfl
       exact wpOp_val (v := .bool (Rg.oneB (Rg.nar ⟨⟨a, b⟩, ⟨c, d⟩⟩))) (w' := wx) rfl rfl (by simp [execOp, Act.eval, s28, go_sem]) ⟨_, rfl, tab_put rfl hs rfl (congrArg Value.bool Ffk2.out), hS.same 4 rfl⟩
      ·
       have s31 : ax.tmps.getD 31 undef = .int .u64 (Rg.oneV (Rg.nar ⟨⟨a, b⟩, ⟨c, d⟩⟩)) := (hdone 0 _ rfl rfl).2 _ rfl
       exact wpOp_val (v := .int .u64 (Rg.oneV (Rg.nar ⟨⟨a, b⟩, ⟨c, d⟩⟩))) (w' := wx) rfl rfl (by simp [execOp, Act.eval, s31]) ⟨_, rfl, tab_put rfl hs rfl rfl, hS.same 5 rfl⟩
      ·
       have s32 : ax.tmps.getD 32 undef = .bool true := (hdone 0 _ rfl rfl).2 _ rfl
       exact wpOp_val (v := .bool true) (w' := wx) rfl rfl (by simp [execOp, Act.eval, s32]) ⟨_, rfl, tab_put rfl hs rfl rfl, hS.same 6 rfl⟩
    intro a4 w4 fl d4 z4 rest4 R4 hfl hS
    obtain ⟨B4, n4, hBs, hAs, hPs⟩ := hS.finish hfl rfl
    replace d4 := d4.trans d3
    replace z4 := z4.trans z3
    obtain ⟨⟨-, b_g1_4⟩, ⟨-, b_g2_4⟩, -⟩ := hBs
    have s1_4 := (rest4 1 (not_of (by kernel_rfl))).trans s1_3
    have s2_4 := (rest4 2 (not_of (by kernel_rfl))).trans s2_3
    have s4_4 := (rest4 4 (not_of (by kernel_rfl))).trans s4_3
    have s5_4 := (rest4 5 (not_of (by kernel_rfl))).trans s5_3
    have s7_4 : a4.tmps.getD 7 undef = .int .u64 (Rg.oneV (Rg.nar ⟨⟨a, b⟩, ⟨c, d⟩⟩)) := R4 5 _ rfl
    have s8_4 : a4.tmps.getD 8 undef = .bool true := R4 6 _ rfl
    clear R4 rest4 hS hfl hPs hAs
    clear s1_3 s2_3 s4_3 s5_3 s15_3 b_g1_3 b_g2_3 d3 z3
    refine wp_seq ?_
    refine wp_regx (SX W w4.heap.size [⟨g1, 60, (cR a b c d), none, #[]⟩, ⟨g2, 60, (cR ((Rg.nar ⟨⟨a, b⟩, ⟨c, d⟩⟩).u.lo) ((Rg.nar ⟨⟨a, b⟩, ⟨c, d⟩⟩).u.hi) ((Rg.nar ⟨⟨a, b⟩, ⟨c, d⟩⟩).s.lo) ((Rg.nar ⟨⟨a, b⟩, ⟨c, d⟩⟩).s.hi)), none, #[]⟩] []) (TabX [fun vx => vx = .agg #[.int .u64 ((Rg.nar ⟨⟨a, b⟩, ⟨c, d⟩⟩).u.lo), .int .u64 ((Rg.nar ⟨⟨a, b⟩, ⟨c, d⟩⟩).u.hi), .int .i64 ((Rg.nar ⟨⟨a, b⟩, ⟨c, d⟩⟩).s.lo), .int .i64 ((Rg.nar ⟨⟨a, b⟩, ⟨c, d⟩⟩).s.hi)], fun vx => vx = .bool true, fun vx => vx = .bool true, fun vx => vx = .agg #[.int .u64 ((Rg.nar ⟨⟨a, b⟩, ⟨c, d⟩⟩).u.lo), .int .u64 ((Rg.nar ⟨⟨a, b⟩, ⟨c, d⟩⟩).u.hi), .int .i64 ((Rg.nar ⟨⟨a, b⟩, ⟨c, d⟩⟩).s.lo), .int .i64 ((Rg.nar ⟨⟨a, b⟩, ⟨c, d⟩⟩).s.hi)], fun vx => vx = .int .u64 v, fun vx => vx = .bool true, fun vx => vx = .agg #[.int .u64 a, .int .u64 b, .int .i64 c, .int .i64 d], fun vx => vx = .int .u64 v, fun vx => vx = .bool true, fun vx => vx = .bool true, fun vx => vx = .bool true, fun vx => vx = .bool true, fun vx => vx = .bool true, fun vx => vx = .bool false, fun vx => vx = .bool false, fun vx => vx = .agg #[.int .u64 ((Rg.nar ⟨⟨a, b⟩, ⟨c, d⟩⟩).u.lo), .int .u64 ((Rg.nar ⟨⟨a, b⟩, ⟨c, d⟩⟩).u.hi), .int .i64 ((Rg.nar ⟨⟨a, b⟩, ⟨c, d⟩⟩).s.lo), .int .i64 ((Rg.nar ⟨⟨a, b⟩, ⟨c, d⟩⟩).s.hi)], fun vx => vx = .int .u64 v, fun vx => vx = .bool true, fun vx => vx = .int .u64 v, fun vx => vx = .int .u64 (Rg.oneV (Rg.nar ⟨⟨a, b⟩, ⟨c, d⟩⟩)), fun vx => vx = .bool true, fun vx => vx = .bool true, fun vx => vx = .bool true, fun vx => vx = .bool true, fun vx => vx = .bool true, fun vx => vx = .bool true, fun vx => vx = .bool true, fun vx => vx = .bool true]) (by kernel_rfl) (back_of (by kernel_rfl)) (dst_of (by kernel_rfl)) (in_ofz (by kernel_rfl) z4) (fun fl w1 hfl hw => SX.start' hw B4 hfl rfl ⟨b_g1_4, b_g2_4, trivial⟩) ?h10 ?_
    case h10 =>
      intro ix ox ax wx fl ho hS hfi clo hsz hrest hdone hund
      have t1 := (hrest 1 (not_of (by kernel_rfl))).trans s1_4
      have t2 := (hrest 2 (not_of (by kernel_rfl))).trans s2_4
      have t5 := (hrest 5 (not_of (by kernel_rfl))).trans s5_4
      have t7 := (hrest 7 (not_of (by kernel_rfl))).trans s7_4
      have t8 := (hrest 8 (not_of (by kernel_rfl))).trans s8_4
      have hs : ax.tmps.size = 60 := hsz.trans z4
      have hi : ix < 28 := (Array.getElem?_eq_some_iff.1 ho).1
      clear hrest hsz hund
      obtain rfl | rfl | rfl | rfl | rfl | rfl | rfl | rfl | rfl | rfl | rfl | rfl | rfl | rfl | rfl | rfl | rfl | rfl | rfl | rfl | rfl | rfl | rfl | rfl | rfl | rfl | rfl | rfl : ix = 0 ∨ ix = 1 ∨ ix = 2 ∨ ix = 3 ∨ ix = 4 ∨ ix = 5 ∨ ix = 6 ∨ ix = 7 ∨ ix = 8 ∨ ix = 9 ∨ ix = 10 ∨ ix = 11 ∨ ix = 12 ∨ ix = 13 ∨ ix = 14 ∨ ix = 15 ∨ ix = 16 ∨ ix = 17 ∨ ix = 18 ∨ ix = 19 ∨ ix = 20 ∨ ix = 21 ∨ ix = 22 ∨ ix = 23 ∨ ix = 24 ∨ ix = 25 ∨ ix = 26 ∨ ix = 27 := by omega
      all_goals obtain rfl := Option.some.inj (show some _ = some ox from ho)
      ·
       have hr := hS.rowNi 1 rfl
       exact wpOp_val (v := .agg #[.int .u64 ((Rg.nar ⟨⟨a, b⟩, ⟨c, d⟩⟩).u.lo), .int .u64 ((Rg.nar ⟨⟨a, b⟩, ⟨c, d⟩⟩).u.hi), .int .i64 ((Rg.nar ⟨⟨a, b⟩, ⟨c, d⟩⟩).s.lo), .int .i64 ((Rg.nar ⟨⟨a, b⟩, ⟨c, d⟩⟩).s.hi)]) (w' := wx) rfl rfl (exec_loadR 60 _ rfl g2 0 (show ax.eval (.tmp 5) = .pointer (some ⟨g2, 0, none⟩) from t5) hr [.int .u64 ((Rg.nar ⟨⟨a, b⟩, ⟨c, d⟩⟩).u.lo), .int .u64 ((Rg.nar ⟨⟨a, b⟩, ⟨c, d⟩⟩).u.hi), .int .i64 ((Rg.nar ⟨⟨a, b⟩, ⟨c, d⟩⟩).s.lo), .int .i64 ((Rg.nar ⟨⟨a, b⟩, ⟨c, d⟩⟩).s.hi)] rfl _ Try.underlying60 rfl (by kernel_rfl)) ⟨_, rfl, tab_put rfl hs rfl rfl, hS.same 0 rfl⟩
      ·
       have s33 : ax.tmps.getD 33 undef = .agg #[.int .u64 ((Rg.nar ⟨⟨a, b⟩, ⟨c, d⟩⟩).u.lo), .int .u64 ((Rg.nar ⟨⟨a, b⟩, ⟨c, d⟩⟩).u.hi), .int .i64 ((Rg.nar ⟨⟨a, b⟩, ⟨c, d⟩⟩).s.lo), .int .i64 ((Rg.nar ⟨⟨a, b⟩, ⟨c, d⟩⟩).s.hi)] := (hdone 0 _ rfl rfl).2 _ rfl
       refine wpOp_call (args := #[.agg #[.int .u64 ((Rg.nar ⟨⟨a, b⟩, ⟨c, d⟩⟩).u.lo), .int .u64 ((Rg.nar ⟨⟨a, b⟩, ⟨c, d⟩⟩).u.hi), .int .i64 ((Rg.nar ⟨⟨a, b⟩, ⟨c, d⟩⟩).s.lo), .int .i64 ((Rg.nar ⟨⟨a, b⟩, ⟨c, d⟩⟩).s.hi)]]) rfl rfl (exec_call rfl rfl rfl (args1 (show ax.eval (.tmp 33) = .agg #[.int .u64 ((Rg.nar ⟨⟨a, b⟩, ⟨c, d⟩⟩).u.lo), .int .u64 ((Rg.nar ⟨⟨a, b⟩, ⟨c, d⟩⟩).u.hi), .int .i64 ((Rg.nar ⟨⟨a, b⟩, ⟨c, d⟩⟩).s.lo), .int .i64 ((Rg.nar ⟨⟨a, b⟩, ⟨c, d⟩⟩).s.hi)] from s33)) Try.func30 (by decide +kernel) rfl) ?_
       · refine (may_n ((Rg.nar ⟨⟨a, b⟩, ⟨c, d⟩⟩).u.lo) ((Rg.nar ⟨⟨a, b⟩, ⟨c, d⟩⟩).u.hi) ((Rg.nar ⟨⟨a, b⟩, ⟨c, d⟩⟩).s.lo) ((Rg.nar ⟨⟨a, b⟩, ⟨c, d⟩⟩).s.hi) wx).mono ?_
         rintro e w' ⟨rfl, b9⟩
         exact ⟨_, rfl, _, rfl, tab_put rfl hs rfl (congrArg Value.bool (K3.out Ffk1.out)), hS.quiet 1 rfl b9⟩
      ·
       have s34 : ax.tmps.getD 34 undef = .bool true := (hdone 0 _ rfl rfl).2 _ rfl
       exact wpOp_val (v := .bool true) (w' := wx) rfl rfl (by simp [execOp, Act.eval, s34]) ⟨_, rfl, tab_put rfl hs rfl rfl, hS.same 2 rfl⟩
      ·
       have hg : ax.tmps.getD 35 undef = .bool true := (hdone 0 _ rfl rfl).2 _ rfl
       have hr := hS.rowNi 1 rfl
       exact wpOp_valw (v := .agg #[.int .u64 ((Rg.nar ⟨⟨a, b⟩, ⟨c, d⟩⟩).u.lo), .int .u64 ((Rg.nar ⟨⟨a, b⟩, ⟨c, d⟩⟩).u.hi), .int .i64 ((Rg.nar ⟨⟨a, b⟩, ⟨c, d⟩⟩).s.lo), .int .i64 ((Rg.nar ⟨⟨a, b⟩, ⟨c, d⟩⟩).s.hi)]) (w' := wx) rfl (wanted_yes 2 35 true hg (by rw [hs]; omega) rfl rfl rfl rfl) (exec_loadR 60 _ rfl g2 0 (show ax.eval (.tmp 5) = .pointer (some ⟨g2, 0, none⟩) from t5) hr [.int .u64 ((Rg.nar ⟨⟨a, b⟩, ⟨c, d⟩⟩).u.lo), .int .u64 ((Rg.nar ⟨⟨a, b⟩, ⟨c, d⟩⟩).u.hi), .int .i64 ((Rg.nar ⟨⟨a, b⟩, ⟨c, d⟩⟩).s.lo), .int .i64 ((Rg.nar ⟨⟨a, b⟩, ⟨c, d⟩⟩).s.hi)] rfl _ Try.underlying60 rfl (by kernel_rfl)) ⟨_, rfl, tab_put rfl hs rfl rfl, hS.same 3 rfl⟩
      ·
       have hg : ax.tmps.getD 35 undef = .bool true := (hdone 0 _ rfl rfl).2 _ rfl
       exact wpOp_valw (v := .int .u64 v) (w' := wx) rfl (wanted_yes 2 35 true hg (by rw [hs]; omega) rfl rfl rfl rfl) (by simp [execOp, Act.eval, t1]) ⟨_, rfl, tab_put rfl hs rfl rfl, hS.same 4 rfl⟩
      ·
       have hg : ax.tmps.getD 35 undef = .bool true := (hdone 2 _ rfl rfl).2 _ rfl
       have s36 : ax.tmps.getD 36 undef = .agg #[.int .u64 ((Rg.nar ⟨⟨a, b⟩, ⟨c, d⟩⟩).u.lo), .int .u64 ((Rg.nar ⟨⟨a, b⟩, ⟨c, d⟩⟩).u.hi), .int .i64 ((Rg.nar ⟨⟨a, b⟩, ⟨c, d⟩⟩).s.lo), .int .i64 ((Rg.nar ⟨⟨a, b⟩, ⟨c, d⟩⟩).s.hi)] := (hdone 0 _ rfl rfl).2 _ rfl
       have s37 : ax.tmps.getD 37 undef = .int .u64 v := (hdone 1 _ rfl rfl).2 _ rfl
       refine wpOp_callw (args := #[.agg #[.int .u64 ((Rg.nar ⟨⟨a, b⟩, ⟨c, d⟩⟩).u.lo), .int .u64 ((Rg.nar ⟨⟨a, b⟩, ⟨c, d⟩⟩).u.hi), .int .i64 ((Rg.nar ⟨⟨a, b⟩, ⟨c, d⟩⟩).s.lo), .int .i64 ((Rg.nar ⟨⟨a, b⟩, ⟨c, d⟩⟩).s.hi)], .int .u64 v]) rfl (wanted_yes 2 35 true hg (by rw [hs]; omega) rfl rfl rfl rfl) (exec_call rfl rfl rfl (args2 (show ax.eval (.tmp 36) = .agg #[.int .u64 ((Rg.nar ⟨⟨a, b⟩, ⟨c, d⟩⟩).u.lo), .int .u64 ((Rg.nar ⟨⟨a, b⟩, ⟨c, d⟩⟩).u.hi), .int .i64 ((Rg.nar ⟨⟨a, b⟩, ⟨c, d⟩⟩).s.lo), .int .i64 ((Rg.nar ⟨⟨a, b⟩, ⟨c, d⟩⟩).s.hi)] from s36) (show ax.eval (.tmp 37) = .int .u64 v from s37)) Try.func36 (by decide +kernel) rfl) ?_
       · refine (has_n ((Rg.nar ⟨⟨a, b⟩, ⟨c, d⟩⟩).u.lo) ((Rg.nar ⟨⟨a, b⟩, ⟨c, d⟩⟩).u.hi) ((Rg.nar ⟨⟨a, b⟩, ⟨c, d⟩⟩).s.lo) ((Rg.nar ⟨⟨a, b⟩, ⟨c, d⟩⟩).s.hi) v wx).mono ?_
         rintro e w' ⟨rfl, b9⟩
         exact ⟨_, rfl, _, rfl, tab_put rfl hs rfl (congrArg Value.bool ((K4.out Ffk1.out).trans FV.out)), hS.quiet 5 rfl b9⟩
      ·
       have hg : ax.tmps.getD 35 undef = .bool true := (hdone 0 _ rfl rfl).2 _ rfl
       have hr := hS.rowNi 0 rfl
       exact wpOp_valw (v := .agg #[.int .u64 a, .int .u64 b, .int .i64 c, .int .i64 d]) (w' := wx) rfl (wanted_yes 2 35 true hg (by rw [hs]; omega) rfl rfl rfl rfl) (exec_loadR 60 _ rfl g1 0 (show ax.eval (.tmp 2) = .pointer (some ⟨g1, 0, none⟩) from t2) hr [.int .u64 a, .int .u64 b, .int .i64 c, .int .i64 d] rfl _ Try.underlying60 rfl (by kernel_rfl)) ⟨_, rfl, tab_put rfl hs rfl rfl, hS.same 6 rfl⟩
      ·
       have hg : ax.tmps.getD 35 undef = .bool true := (hdone 0 _ rfl rfl).2 _ rfl
       exact wpOp_valw (v := .int .u64 v) (w' := wx) rfl (wanted_yes 2 35 true hg (by rw [hs]; omega) rfl rfl rfl rfl) (by simp [execOp, Act.eval, t1]) ⟨_, rfl, tab_put rfl hs rfl rfl, hS.same 7 rfl⟩
      ·
       have hg : ax.tmps.getD 35 undef = .bool true := (hdone 3 _ rfl rfl).2 _ rfl
       have s39 : ax.tmps.getD 39 undef = .agg #[.int .u64 a, .int .u64 b, .int .i64 c, .int .i64 d] := (hdone 0 _ rfl rfl).2 _ rfl
       have s40 : ax.tmps.getD 40 undef = .int .u64 v := (hdone 1 _ rfl rfl).2 _ rfl
       refine wpOp_callw (args := #[.agg #[.int .u64 a, .int .u64 b, .int .i64 c, .int .i64 d], .int .u64 v]) rfl (wanted_yes 2 35 true hg (by rw [hs]; omega) rfl rfl rfl rfl) (exec_call rfl rfl rfl (args2 (show ax.eval (.tmp 39) = .agg #[.int .u64 a, .int .u64 b, .int .i64 c, .int .i64 d] from s39) (show ax.eval (.tmp 40) = .int .u64 v from s40)) Try.func36 (by decide +kernel) rfl) ?_
       · refine (has_n a b c d v wx).mono ?_
         rintro e w' ⟨rfl, b9⟩
         exact ⟨_, rfl, _, rfl, tab_put rfl hs rfl (congrArg Value.bool FV.out), hS.quiet 8 rfl b9⟩
      ·
       have hg : ax.tmps.getD 35 undef = .bool true := (hdone 2 _ rfl rfl).2 _ rfl
       have s38 : ax.tmps.getD 38 undef = .bool true := (hdone 0 _ rfl rfl).2 _ rfl
       have s41 : ax.tmps.getD 41 undef = .bool true := (hdone 1 _ rfl rfl).2 _ rfl
       exact wpOp_valw (v := .bool true) (w' := wx) rfl (wanted_yes 2 35 true hg (by rw [hs]; omega) rfl rfl rfl rfl) (by (simp [execOp, Act.eval, s38, s41, go_sem]; try (simp only [IntKind.wrap_i64, wrap64]))) ⟨_, rfl, tab_put rfl hs rfl rfl, hS.same 9 rfl⟩
      ·
       have s35 : ax.tmps.getD 35 undef = .bool true := (hdone 0 _ rfl rfl).2 _ rfl
       have s42 : ax.tmps.getD 42 undef = .bool true := (hdone 1 _ rfl rfl).2 _ rfl
       exact wpOp_val (v := .bool true) (w' := wx) rfl rfl (by simp [execOp, Act.eval, s35, s42, go_sem]) ⟨_, rfl, tab_put rfl hs rfl rfl, hS.same 10 rfl⟩
      ·
       have s43 : ax.tmps.getD 43 undef = .bool true := (hdone 0 _ rfl rfl).2 _ rfl
       exact wpOp_val (v := .bool true) (w' := wx) rfl rfl (by simp [execOp, Act.eval, s43]) ⟨_, rfl, tab_put rfl hs rfl rfl, hS.same 11 rfl⟩
      ·
       have hg : ax.tmps.getD 44 undef = .bool true := (hdone 0 _ rfl rfl).2 _ rfl
       exact wpOp_valw (v := .bool true) (w' := wx) rfl (wanted_yes 11 44 true hg (by rw [hs]; omega) rfl rfl rfl rfl) (by simp [execOp, Act.eval, t8]) ⟨_, rfl, tab_put rfl hs rfl rfl, hS.same 12 rfl⟩
      ·
       have hg : ax.tmps.getD 44 undef = .bool true := (hdone 1 _ rfl rfl).2 _ rfl
       have s45 : ax.tmps.getD 45 undef = .bool true := (hdone 0 _ rfl rfl).2 _ rfl
       exact wpOp_valw (v := .bool false) (w' := wx) rfl (wanted_yes 11 44 true hg (by rw [hs]; omega) rfl rfl rfl rfl) (by simp [execOp, Act.eval, s45, go_sem]) ⟨_, rfl, tab_put rfl hs rfl rfl, hS.same 13 rfl⟩
      ·
       have hg : ax.tmps.getD 44 undef = .bool true := (hdone 1 _ rfl rfl).2 _ rfl
       have s46 : ax.tmps.getD 46 undef = .bool false := (hdone 0 _ rfl rfl).2 _ rfl
       exact wpOp_valw (v := .bool false) (w' := wx) rfl (wanted_yes 11 44 true hg (by rw [hs]; omega) rfl rfl rfl rfl) (by simp [execOp, Act.eval, s46]) ⟨_, rfl, tab_put rfl hs rfl rfl, hS.same 14 rfl⟩
      ·
       have hg : ax.tmps.getD 47 undef = .bool false := (hdone 0 _ rfl rfl).2 _ rfl
       have hr := hS.rowNi 1 rfl
       exact wpOp_valw (v := .agg #[.int .u64 ((Rg.nar ⟨⟨a, b⟩, ⟨c, d⟩⟩).u.lo), .int .u64 ((Rg.nar ⟨⟨a, b⟩, ⟨c, d⟩⟩).u.hi), .int .i64 ((Rg.nar ⟨⟨a, b⟩, ⟨c, d⟩⟩).s.lo), .int .i64 ((Rg.nar ⟨⟨a, b⟩, ⟨c, d⟩⟩).s.hi)]) (w' := wx) rfl (wanted_yes 14 47 false hg (by rw [hs]; omega) rfl rfl rfl rfl) (exec_loadR 60 _ rfl g2 0 (show ax.eval (.tmp 5) = .pointer (some ⟨g2, 0, none⟩) from t5) hr [.int .u64 ((Rg.nar ⟨⟨a, b⟩, ⟨c, d⟩⟩).u.lo), .int .u64 ((Rg.nar ⟨⟨a, b⟩, ⟨c, d⟩⟩).u.hi), .int .i64 ((Rg.nar ⟨⟨a, b⟩, ⟨c, d⟩⟩).s.lo), .int .i64 ((Rg.nar ⟨⟨a, b⟩, ⟨c, d⟩⟩).s.hi)] rfl _ Try.underlying60 rfl (by kernel_rfl)) ⟨_, rfl, tab_put rfl hs rfl rfl, hS.same 15 rfl⟩
      ·
       have hg : ax.tmps.getD 47 undef = .bool false := (hdone 0 _ rfl rfl).2 _ rfl
       exact wpOp_valw (v := .int .u64 v) (w' := wx) rfl (wanted_yes 14 47 false hg (by rw [hs]; omega) rfl rfl rfl rfl) (by simp [execOp, Act.eval, t1]) ⟨_, rfl, tab_put rfl hs rfl rfl, hS.same 16 rfl⟩
      ·
       have hg : ax.tmps.getD 47 undef = .bool false := (hdone 2 _ rfl rfl).2 _ rfl
       have s48 : ax.tmps.getD 48 undef = .agg #[.int .u64 ((Rg.nar ⟨⟨a, b⟩, ⟨c, d⟩⟩).u.lo), .int .u64 ((Rg.nar ⟨⟨a, b⟩, ⟨c, d⟩⟩).u.hi), .int .i64 ((Rg.nar ⟨⟨a, b⟩, ⟨c, d⟩⟩).s.lo), .int .i64 ((Rg.nar ⟨⟨a, b⟩, ⟨c, d⟩⟩).s.hi)] := (hdone 0 _ rfl rfl).2 _ rfl
       have s49 : ax.tmps.getD 49 undef = .int .u64 v := (hdone 1 _ rfl rfl).2 _ rfl
       refine wpOp_callw (args := #[.agg #[.int .u64 ((Rg.nar ⟨⟨a, b⟩, ⟨c, d⟩⟩).u.lo), .int .u64 ((Rg.nar ⟨⟨a, b⟩, ⟨c, d⟩⟩).u.hi), .int .i64 ((Rg.nar ⟨⟨a, b⟩, ⟨c, d⟩⟩).s.lo), .int .i64 ((Rg.nar ⟨⟨a, b⟩, ⟨c, d⟩⟩).s.hi)], .int .u64 v]) rfl (wanted_yes 14 47 false hg (by rw [hs]; omega) rfl rfl rfl rfl) (exec_call rfl rfl rfl (args2 (show ax.eval (.tmp 48) = .agg #[.int .u64 ((Rg.nar ⟨⟨a, b⟩, ⟨c, d⟩⟩).u.lo), .int .u64 ((Rg.nar ⟨⟨a, b⟩, ⟨c, d⟩⟩).u.hi), .int .i64 ((Rg.nar ⟨⟨a, b⟩, ⟨c, d⟩⟩).s.lo), .int .i64 ((Rg.nar ⟨⟨a, b⟩, ⟨c, d⟩⟩).s.hi)] from s48) (show ax.eval (.tmp 49) = .int .u64 v from s49)) Try.func36 (by decide +kernel) rfl) ?_
       · refine (has_n ((Rg.nar ⟨⟨a, b⟩, ⟨c, d⟩⟩).u.lo) ((Rg.nar ⟨⟨a, b⟩, ⟨c, d⟩⟩).u.hi) ((Rg.nar ⟨⟨a, b⟩, ⟨c, d⟩⟩).s.lo) ((Rg.nar ⟨⟨a, b⟩, ⟨c, d⟩⟩).s.hi) v wx).mono ?_
         rintro e w' ⟨rfl, b9⟩
         exact ⟨_, rfl, _, rfl, tab_put rfl hs rfl (congrArg Value.bool ((K4.out Ffk1.out).trans FV.out)), hS.quiet 17 rfl b9⟩
      ·
       have hg : ax.tmps.getD 47 undef = .bool false := (hdone 0 _ rfl rfl).2 _ rfl
       exact wpOp_valw (v := .int .u64 v) (w' := wx) rfl (wanted_yes 14 47 false hg (by rw [hs]; omega) rfl rfl rfl rfl) (by simp [execOp, Act.eval, t1]) ⟨_, rfl, tab_put rfl hs rfl rfl, hS.same 18 rfl⟩
      ·
       have hg : ax.tmps.getD 47 undef = .bool false := (hdone 0 _ rfl rfl).2 _ rfl
       exact wpOp_valw (v := .int .u64 (Rg.oneV (Rg.nar ⟨⟨a, b⟩, ⟨c, d⟩⟩))) (w' := wx) rfl (wanted_yes 14 47 false hg (by rw [hs]; omega) rfl rfl rfl rfl) (by simp [execOp, Act.eval, t7]) ⟨_, rfl, tab_put rfl hs rfl rfl, hS.same 19 rfl⟩
      ·
       have hg : ax.tmps.getD 47 undef = .bool false := (hdone 2 _ rfl rfl).2 _ rfl
       have s51 : ax.tmps.getD 51 undef = .int .u64 v := (hdone 0 _ rfl rfl).2 _ rfl
       have s52 : ax.tmps.getD 52 undef = .int .u64 (Rg.oneV (Rg.nar ⟨⟨a, b⟩, ⟨c, d⟩⟩)) := (hdone 1 _ rfl rfl).2 _ rfl
       exact wpOp_valw (v := .bool (v == (Rg.oneV (Rg.nar ⟨⟨a, b⟩, ⟨c, d⟩⟩)))) (w' := wx) rfl (wanted_yes 14 47 false hg (by rw [hs]; omega) rfl rfl rfl rfl) (by (simp [execOp, Act.eval, s51, s52, go_sem]; try (simp only [IntKind.wrap_i64, wrap64]))) ⟨_, rfl, tab_put rfl hs rfl (congrArg Value.bool ((K5.out Ffk2.out).symm.trans ((K4.out Ffk1.out).trans FV.out))), hS.same 20 rfl⟩
      ·
       have hg : ax.tmps.getD 47 undef = .bool false := (hdone 2 _ rfl rfl).2 _ rfl
       have s50 : ax.tmps.getD 50 undef = .bool true := (hdone 0 _ rfl rfl).2 _ rfl
       have s53 : ax.tmps.getD 53 undef = .bool true := (hdone 1 _ rfl rfl).2 _ rfl
       exact wpOp_valw (v := .bool true) (w' := wx) rfl (wanted_yes 14 47 false hg (by rw [hs]; omega) rfl rfl rfl rfl) (by (simp [execOp, Act.eval, s50, s53, go_sem]; try (simp only [IntKind.wrap_i64, wrap64]))) ⟨_, rfl, tab_put rfl hs rfl rfl, hS.same 21 rfl⟩
      ·
       have hg : ax.tmps.getD 44 undef = .bool true := (hdone 2 _ rfl rfl).2 _ rfl
       have s47 : ax.tmps.getD 47 undef = .bool false := (hdone 0 _ rfl rfl).2 _ rfl
       have s54 : ax.tmps.getD 54 undef = .bool true := (hdone 1 _ rfl rfl).2 _ rfl
       exact wpOp_valw (v := .bool true) (w' := wx) rfl (wanted_yes 11 44 true hg (by rw [hs]; omega) rfl rfl rfl rfl) (by simp [execOp, Act.eval, s47, s54, go_sem]) ⟨_, rfl, tab_put rfl hs rfl rfl, hS.same 22 rfl⟩
      ·
       have s44 : ax.tmps.getD 44 undef = .bool true := (hdone 0 _ rfl rfl).2 _ rfl
       have s55 : ax.tmps.getD 55 undef = .bool true := (hdone 1 _ rfl rfl).2 _ rfl
       exact wpOp_val (v := .bool true) (w' := wx) rfl rfl (by simp [execOp, Act.eval, s44, s55, go_sem]) ⟨_, rfl, tab_put rfl hs rfl rfl, hS.same 23 rfl⟩
      ·
       have s56 : ax.tmps.getD 56 undef = .bool true := (hdone 0 _ rfl rfl).2 _ rfl
       exact wpOp_val (v := .bool true) (w' := wx) rfl rfl (by simp [execOp, Act.eval, s56]) ⟨_, rfl, tab_put rfl hs rfl rfl, hS.same 24 rfl⟩
      ·
       have hg : ax.tmps.getD 57 undef = .bool true := (hdone 0 _ rfl rfl).2 _ rfl
       refine wpOp_callw (args := #[]) rfl (wanted_yes 24 57 true hg (by rw [hs]; omega) rfl rfl rfl rfl) (exec_call rfl rfl rfl (args0 ) Try.func46 (by decide +kernel) rfl) ?_
       · refine (wakes_n wx).mono ?_
         rintro e w' ⟨rfl, b9⟩
         exact ⟨_, rfl, _, rfl, tab_put rfl hs rfl rfl, hS.quiet 25 rfl b9⟩
      ·
       have s57 : ax.tmps.getD 57 undef = .bool true := (hdone 0 _ rfl rfl).2 _ rfl
       have s58 : ax.tmps.getD 58 undef = .bool true := (hdone 1 _ rfl rfl).2 _ rfl
       exact wpOp_val (v := .bool true) (w' := wx) rfl rfl (by simp [execOp, Act.eval, s57, s58, go_sem]) ⟨_, rfl, tab_put rfl hs rfl rfl, hS.same 26 rfl⟩
      ·
       have s59 : ax.tmps.getD 59 undef = .bool true := (hdone 0 _ rfl rfl).2 _ rfl
       exact wpOp_val (v := .bool true) (w' := wx) rfl rfl (by simp [execOp, Act.eval, s59]) ⟨_, rfl, tab_put rfl hs rfl rfl, hS.same 27 rfl⟩
    intro a5 w5 fl d5 z5 rest5 R5 hfl hS
    obtain ⟨B5, n5, hBs, hAs, hPs⟩ := hS.finish hfl rfl
    replace d5 := d5.trans d4
    replace z5 := z5.trans z4
    obtain ⟨⟨-, b_g1_5⟩, ⟨-, b_g2_5⟩, -⟩ := hBs
    have s4_5 : a5.tmps.getD 4 undef = .bool true := R5 27 _ rfl
    clear R5 rest5 hS hfl hPs hAs
    clear s1_4 s2_4 s4_4 s5_4 s7_4 s8_4 b_g1_4 b_g2_4 d4 z4
    refine wp_ret ?_
    try simp only [Exit.inBlock, Exit.then]
    refine bodyPost_ret (res_t (fn := Try.f10) rfl s4_5) d5 ?_
    exact ⟨rfl, B5⟩

theorem narrow_walk (x : Rg) (v : Int) (W : World) (ok : x.Ok) (hv : (Lit.int .u64 v).wf = true) : Calls Try.prog 10 #[x.val, .int .u64 v] W fun e w' => e = .returned (.bool true) ∧ Below W.heap.size W w' := narrow_law x.u.lo x.u.hi x.s.lo x.s.hi v W ok (wf_u64 hv).1 (wf_u64 hv).2
end Go.Proofs.Ytfededcmelhjjaa.Bnd
