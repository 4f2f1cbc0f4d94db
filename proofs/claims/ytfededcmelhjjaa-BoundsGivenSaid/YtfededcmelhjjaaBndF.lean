/-
  Package bounds: ones, unsignedResults. (Written by gen_bndd.py.)
-/
import Derived.Test.YtfededcmelhjjaaBndD
import Derived.Test.YtfededcmelhjjaaBndL
namespace Go.Proofs.Ytfededcmelhjjaa.Bnd
open Go.RowKit
set_option linter.unusedVariables false
set_option linter.unusedSimpArgs false
set_option linter.unnecessarySimpa false
set_option maxRecDepth 100000

set_option maxHeartbeats 4000000 in
theorem ones_n (a : Int) (W : World) (h0 : 0 ≤ a) (h1 : a < 18446744073709551616) : Calls Try.prog 130 #[.int .u64 a] W fun e w' => e = .returned (.int .u64 (onesI (Int.toNat a))) ∧ Below W.heap.size W w' := by
  have l := lenN_64 (n := a.toNat) (by omega)
  have H0 := Lib.hid (And.intro h0 h1)
  have H1 : Hid (0 ≤ (lenN (Int.toNat a) : Int)) := Lib.hid (by omega)
  have H2 : Hid ((lenN (Int.toNat a) : Int) ≤ 64) := Lib.hid (by omega)
  have H3 : Hid (IntKind.u64.wrap (((1 * 2 ^ Int.toNat (lenN (Int.toNat a) : Int)) % 18446744073709551616) - 1) = onesI (Int.toNat a)) := Lib.hid (by
    have p := onesI_bd (n := a.toNat) (by omega)
    rw [onesI_is] at p ⊢
    have q : (2 : Int) ^ Int.toNat (lenN (Int.toNat a) : Int) = ((2 ^ lenN a.toNat : Nat) : Int) := by rw [Int.toNat_natCast, pow_cast]
    rw [Int.one_mul, q, IntKind.wrap_u64]
    omega)
  clear l h0 h1
  refine calls_abs Try.func130 rfl (Nat.le_of_ble_eq_true rfl) ?_
  intro a0 d0 z0 h0
  have z0 : a0.tmps.size = 7 := z0
  have s0_0 : a0.tmps.getD 0 undef = .int .u64 a := h0 0 (Nat.le_of_ble_eq_true rfl)
  clear h0
  have B0 : Below W.heap.size W W := Below.refl _ _
  refine wp_seq ?_
  refine wp_regx (SX W W.heap.size [] []) (TabX [fun vx => vx = .int .u64 0]) (by kernel_rfl) (back_of (by kernel_rfl)) (dst_of (by kernel_rfl)) (in_ofz (by kernel_rfl) z0) (fun fl w1 hfl hw => SX.start' hw B0 hfl rfl trivial) ?h1 ?_
  case h1 =>
    intro ix ox ax wx fl ho hS hfi clo hsz hrest hdone hund
    have hs : ax.tmps.size = 7 := hsz.trans z0
    have hi : ix < 1 := (Array.getElem?_eq_some_iff.1 ho).1
    clear hrest hsz hund
    obtain rfl : ix = 0 := by omega
    all_goals obtain rfl := Option.some.inj (show some _ = some ox from ho)
    ·
     exact wpOp_val (v := .int .u64 0) (w' := wx) rfl rfl (by simp [execOp, Act.eval]) ⟨_, rfl, tab_put rfl hs rfl rfl, hS.same 0 rfl⟩
  intro a1 w1 fl d1 z1 rest1 R1 hfl hS
  obtain ⟨B1, n1, hBs, hAs, hPs⟩ := hS.finish hfl rfl
  replace d1 := d1.trans d0
  replace z1 := z1.trans z0
  have s0_1 := (rest1 0 (not_of (by kernel_rfl))).trans s0_0
  have s2_1 : a1.tmps.getD 2 undef = .int .u64 0 := R1 0 _ rfl
  clear R1 rest1 hS hfl hPs hBs hAs
  clear s0_0 d0 z0
  refine wp_seq ?_
  refine wp_regx (SX W w1.heap.size [] []) (TabX [fun vx => vx = .int .u64 a, fun vx => vx = .int .i64 (lenN (Int.toNat a) : Int), fun vx => vx = .int .u64 ((1 * 2 ^ Int.toNat (lenN (Int.toNat a) : Int)) % 18446744073709551616), fun vx => vx = .int .u64 (onesI (Int.toNat a)), fun vx => vx = .int .u64 (onesI (Int.toNat a))]) (by kernel_rfl) (back_of (by kernel_rfl)) (dst_of (by kernel_rfl)) (in_ofz (by kernel_rfl) z1) (fun fl w1 hfl hw => SX.start' hw B1 hfl rfl trivial) ?h2 ?_
  case h2 =>
    intro ix ox ax wx fl ho hS hfi clo hsz hrest hdone hund
    have t0 := (hrest 0 (not_of (by kernel_rfl))).trans s0_1
    have hs : ax.tmps.size = 7 := hsz.trans z1
    have hi : ix < 5 := (Array.getElem?_eq_some_iff.1 ho).1
    clear hrest hsz hund
    obtain rfl | rfl | rfl | rfl | rfl : ix = 0 ∨ ix = 1 ∨ ix = 2 ∨ ix = 3 ∨ ix = 4 := by omega
    all_goals obtain rfl := Option.some.inj (show some _ = some ox from ho)
    ·
     exact wpOp_val (v := .int .u64 a) (w' := wx) rfl rfl (by simp [execOp, Act.eval, t0]) ⟨_, rfl, tab_put rfl hs rfl rfl, hS.same 0 rfl⟩
    ·
     have s3 : ax.tmps.getD 3 undef = .int .u64 a := (hdone 0 _ rfl rfl).2 _ rfl
     refine wpOp_call (args := #[.int .u64 a]) rfl rfl (exec_call rfl rfl rfl (args1 (show ax.eval (.tmp 3) = .int .u64 a from s3)) Try.func160 (by decide +kernel) rfl) ?_
     · refine (len64_any a wx H0.out.1 H0.out.2).mono ?_
       rintro e w' ⟨rfl, b9⟩
       exact ⟨_, rfl, _, rfl, tab_put rfl hs rfl rfl, hS.quiet 1 rfl b9⟩
    ·
     have s4 : ax.tmps.getD 4 undef = .int .i64 (lenN (Int.toNat a) : Int) := (hdone 0 _ rfl rfl).2 _ rfl
     exact wpOp_val (v := .int .u64 ((1 * 2 ^ Int.toNat (lenN (Int.toNat a) : Int)) % 18446744073709551616)) (w' := wx) rfl rfl (exec_shl rfl rfl (show ax.eval (.tmp 4) = .int .i64 (lenN (Int.toNat a) : Int) from s4) H1.out H2.out) ⟨_, rfl, tab_put rfl hs rfl rfl, hS.same 2 rfl⟩
    ·
     have s5 : ax.tmps.getD 5 undef = .int .u64 ((1 * 2 ^ Int.toNat (lenN (Int.toNat a) : Int)) % 18446744073709551616) := (hdone 0 _ rfl rfl).2 _ rfl
     exact wpOp_val (v := .int .u64 (IntKind.u64.wrap (((1 * 2 ^ Int.toNat (lenN (Int.toNat a) : Int)) % 18446744073709551616) - 1))) (w' := wx) rfl rfl (by (simp [execOp, Act.eval, s5, go_sem]; try (simp only [IntKind.wrap_i64, wrap64]))) ⟨_, rfl, tab_put rfl hs rfl (congrArg (Value.int .u64) H3.out), hS.same 3 rfl⟩
    ·
     have s6 : ax.tmps.getD 6 undef = .int .u64 (onesI (Int.toNat a)) := (hdone 0 _ rfl rfl).2 _ rfl
     exact wpOp_val (v := .int .u64 (onesI (Int.toNat a))) (w' := wx) rfl rfl (by simp [execOp, Act.eval, s6]) ⟨_, rfl, tab_put rfl hs rfl rfl, hS.same 4 rfl⟩
  intro a2 w2 fl d2 z2 rest2 R2 hfl hS
  obtain ⟨B2, n2, hBs, hAs, hPs⟩ := hS.finish hfl rfl
  replace d2 := d2.trans d1
  replace z2 := z2.trans z1
  have s2_2 : a2.tmps.getD 2 undef = .int .u64 (onesI (Int.toNat a)) := R2 4 _ rfl
  clear R2 rest2 hS hfl hPs hBs hAs
  clear s0_1 s2_1 d1 z1
  refine wp_ret ?_
  try simp only [Exit.inBlock, Exit.then]
  refine bodyPost_ret (res_t (fn := Try.f130) rfl s2_2) d2 ?_
  exact ⟨rfl, B2⟩

set_option maxHeartbeats 8000000 in
theorem rest_n (op a b c d p q r t : Int) (W : World) (ok : Pr.U ⟨a, b⟩ ∧ Pr.U ⟨p, q⟩) (hy : p ≤ q) : Calls Try.prog 92 #[.int .i8 op, .agg #[.int .u64 a, .int .u64 b, .int .i64 c, .int .i64 d], .agg #[.int .u64 p, .int .u64 q, .int .i64 r, .int .i64 t]] W fun e w' => e = .returned (.agg #[.int .u64 (restU op ⟨⟨a, b⟩, ⟨c, d⟩⟩ ⟨⟨p, q⟩, ⟨r, t⟩⟩).lo, .int .u64 (restU op ⟨⟨a, b⟩, ⟨c, d⟩⟩ ⟨⟨p, q⟩, ⟨r, t⟩⟩).hi]) ∧ Below W.heap.size W w' := by
  have HO : Hid (((0 ≤ a ∧ a < 18446744073709551616) ∧ 0 ≤ b ∧ b < 18446744073709551616) ∧ (0 ≤ p ∧ p < 18446744073709551616) ∧ 0 ≤ q ∧ q < 18446744073709551616) := Lib.hid ok
  simp only [Pr.U] at ok
  have HV : Hid (0 ≤ Rg.oneV ⟨⟨p, q⟩, ⟨r, t⟩⟩) := Lib.hid (by show 0 ≤ (if Rg.oneB ⟨⟨p, q⟩, ⟨r, t⟩⟩ then p else 0); split <;> omega)
  have hv := HV.out
  have HN : Hid (0 ≤ (Rg.oneV ⟨⟨p, q⟩, ⟨r, t⟩⟩) % 64 ∧ (Rg.oneV ⟨⟨p, q⟩, ⟨r, t⟩⟩) % 64 ≤ 64) := Lib.hid (by omega)
  have HD : Hid ((p == 0) = false → 0 < q ∧ 0 < p) := Lib.hid (fun h => by
    have : p ≠ 0 := by simpa using h
    omega)
  have or_ : bits .or .u64 b q = ((b.toNat ||| q.toNat : Nat) : Int) := u64_or b q (by omega) (by omega) (by omega) (by omega)
  have HR : Hid (0 ≤ bits .or .u64 b q ∧ bits .or .u64 b q < 18446744073709551616) := Lib.hid (by rw [or_]; have := or_nat (a := b) (b := q) (by omega) (by omega) (by omega); omega)
  have HR2 : Hid (onesI (Int.toNat (bits .or .u64 b q)) = onesI (b.toNat ||| q.toNat)) := Lib.hid (by rw [or_, Int.toNat_natCast])
  have HM : Hid ((p == 0) = false → min b (IntKind.u64.wrap (q - 1)) = min b (q - 1)) := Lib.hid (fun h => by rw [IntKind.wrap_u64, Int.emod_eq_of_lt (by have := (HD.out h).1; omega) (by omega)])
  have by_ : ((Rg.oneV ⟨⟨p, q⟩, ⟨r, t⟩⟩) % 64).toNat = byN ⟨⟨p, q⟩, ⟨r, t⟩⟩ := rfl
  have pn := pw (byN ⟨⟨p, q⟩, ⟨r, t⟩⟩)
  have HF : Hid (((((b * 2 ^ Int.toNat ((Rg.oneV ⟨⟨p, q⟩, ⟨r, t⟩⟩) % 64)) % 18446744073709551616) / 2 ^ Int.toNat ((Rg.oneV ⟨⟨p, q⟩, ⟨r, t⟩⟩) % 64)) == b) = decide (b * 2 ^ byN ⟨⟨p, q⟩, ⟨r, t⟩⟩ < 18446744073709551616)) := Lib.hid (by
    rw [by_]
    generalize byN ⟨⟨p, q⟩, ⟨r, t⟩⟩ = n at pn
    have nb := mulp_nn (a := b) (by omega) n
    rw [Bool.eq_iff_iff, beq_iff_eq, decide_eq_true_eq]
    constructor
    · intro h
      have l := Int.ediv_mul_le (b * 2 ^ n % 18446744073709551616) (show (2 : Int) ^ n ≠ 0 by omega)
      rw [h] at l
      have := Int.emod_lt_of_pos (b * 2 ^ n) (show (0 : Int) < 18446744073709551616 by omega)
      omega
    · intro h
      rw [Int.emod_eq_of_lt nb h, Int.mul_ediv_cancel _ (by omega)])
  have HG : Hid (((((b * 2 ^ Int.toNat ((Rg.oneV ⟨⟨p, q⟩, ⟨r, t⟩⟩) % 64)) % 18446744073709551616) / 2 ^ Int.toNat ((Rg.oneV ⟨⟨p, q⟩, ⟨r, t⟩⟩) % 64)) == b) = true → (⟨a * 2 ^ byN ⟨⟨p, q⟩, ⟨r, t⟩⟩ % 18446744073709551616, b * 2 ^ byN ⟨⟨p, q⟩, ⟨r, t⟩⟩⟩ : Pr) = ⟨(a * 2 ^ Int.toNat ((Rg.oneV ⟨⟨p, q⟩, ⟨r, t⟩⟩) % 64)) % 18446744073709551616, (b * 2 ^ Int.toNat ((Rg.oneV ⟨⟨p, q⟩, ⟨r, t⟩⟩) % 64)) % 18446744073709551616⟩) := Lib.hid (fun h => by
    rw [HF.out, decide_eq_true_eq] at h
    have nb := mulp_nn (a := b) (by omega) (byN ⟨⟨p, q⟩, ⟨r, t⟩⟩)
    rw [by_, Int.emod_eq_of_lt nb h])
  clear ok hv or_ by_ pn hy
  refine calls_abs Try.func92 rfl (Nat.le_of_ble_eq_true rfl) ?_
  intro a0 d0 z0 h0
  have z0 : a0.tmps.size = 119 := z0
  have s0_0 : a0.tmps.getD 0 undef = .int .i8 op := h0 0 (Nat.le_of_ble_eq_true rfl)
  have s1_0 : a0.tmps.getD 1 undef = .agg #[.int .u64 a, .int .u64 b, .int .i64 c, .int .i64 d] := h0 1 (Nat.le_of_ble_eq_true rfl)
  have s2_0 : a0.tmps.getD 2 undef = .agg #[.int .u64 p, .int .u64 q, .int .i64 r, .int .i64 t] := h0 2 (Nat.le_of_ble_eq_true rfl)
  clear h0
  have B0 : Below W.heap.size W W := Below.refl _ _
  refine wp_seq ?_
  refine wp_regx (SX W W.heap.size [] [⟨0, 4, 60, (cR a b c d), none, #[]⟩, ⟨1, 5, 60, (cR p q r t), none, #[]⟩, ⟨2, 6, 95, (cU 0 0), none, #[]⟩]) (TabX [fun _ => True, fun _ => True, fun _ => True]) (by kernel_rfl) (back_of (by kernel_rfl)) (dst_of (by kernel_rfl)) (in_ofz (by kernel_rfl) z0) (fun fl w1 hfl hw => SX.start' hw B0 hfl rfl trivial) ?h1 ?_
  case h1 =>
    intro ix ox ax wx fl ho hS hfi clo hsz hrest hdone hund
    have t1 := (hrest 1 (not_of (by kernel_rfl))).trans s1_0
    have t2 := (hrest 2 (not_of (by kernel_rfl))).trans s2_0
    have hs : ax.tmps.size = 119 := hsz.trans z0
    have hi : ix < 3 := (Array.getElem?_eq_some_iff.1 ho).1
    clear hrest hsz hund
    obtain rfl | rfl | rfl : ix = 0 ∨ ix = 1 ∨ ix = 2 := by omega
    all_goals obtain rfl := Option.some.inj (show some _ = some ox from ho)
    ·
     refine wpOp_val (v := .pointer (some ⟨wx.heap.size, 0, none⟩)) (w' := wx.alloc (.cells #[.int .u64 a, .int .u64 b, .int .i64 c, .int .i64 d] 60)) rfl rfl ?_ ⟨_, rfl, trivial, hS.alloc 0 4 60 #[.int .u64 a, .int .u64 b, .int .i64 c, .int .i64 d] [] [⟨1, 5, 60, (cR p q r t), none, #[]⟩, ⟨2, 6, 95, (cU 0 0), none, #[]⟩] (none) #[] rfl rfl rfl (by rw [hs]; omega) trivial⟩
     · simp [execOp, Act.eval, t1, go_sem]
    ·
     refine wpOp_val (v := .pointer (some ⟨wx.heap.size, 0, none⟩)) (w' := wx.alloc (.cells #[.int .u64 p, .int .u64 q, .int .i64 r, .int .i64 t] 60)) rfl rfl ?_ ⟨_, rfl, trivial, hS.alloc 1 5 60 #[.int .u64 p, .int .u64 q, .int .i64 r, .int .i64 t] [⟨0, 4, 60, (cR a b c d), none, #[]⟩] [⟨2, 6, 95, (cU 0 0), none, #[]⟩] (none) #[] rfl rfl rfl (by rw [hs]; omega) trivial⟩
     · simp [execOp, Act.eval, t2, go_sem]
    ·
     refine wpOp_val (v := .pointer (some ⟨wx.heap.size, 0, none⟩)) (w' := wx.alloc (.cells #[.int .u64 0, .int .u64 0] 95)) rfl rfl ?_ ⟨_, rfl, trivial, hS.alloc 2 6 95 #[.int .u64 0, .int .u64 0] [⟨0, 4, 60, (cR a b c d), none, #[]⟩, ⟨1, 5, 60, (cR p q r t), none, #[]⟩] [] (none) #[] rfl rfl rfl (by rw [hs]; omega) trivial⟩
     · simp [execOp, Act.eval, go_sem]
  intro a1 w1 fl d1 z1 rest1 R1 hfl hS
  obtain ⟨B1, n1, hBs, hAs, hPs⟩ := hS.finish hfl rfl
  replace d1 := d1.trans d0
  replace z1 := z1.trans z0
  obtain ⟨⟨g1, u_g1, q_g1, b_g1_1⟩, ⟨g2, u_g2, q_g2, b_g2_1⟩, ⟨g3, u_g3, q_g3, b_g3_1⟩, -⟩ := hAs
  replace u_g1 : a1.tmps.getD 4 undef = .pointer (some ⟨g1, 0, none⟩) := u_g1
  have m_g1 : W.heap.size ≤ g1 := q_g1
  replace q_g1 : W.heap.size ≤ g1 := Nat.le_trans B0.size q_g1
  replace u_g2 : a1.tmps.getD 5 undef = .pointer (some ⟨g2, 0, none⟩) := u_g2
  have m_g2 : W.heap.size ≤ g2 := q_g2
  replace q_g2 : W.heap.size ≤ g2 := Nat.le_trans B0.size q_g2
  replace u_g3 : a1.tmps.getD 6 undef = .pointer (some ⟨g3, 0, none⟩) := u_g3
  have m_g3 : W.heap.size ≤ g3 := q_g3
  replace q_g3 : W.heap.size ≤ g3 := Nat.le_trans B0.size q_g3
  simp only [List.pairwise_cons, List.mem_cons, List.not_mem_nil, or_false, forall_eq_or_imp, forall_eq] at hPs
  have ne_g1_g2 : g1 ≠ g2 := by
    have hn : slotOf a1 4 ≠ slotOf a1 5 := hPs.1.1
    intro e; subst e; exact hn (Eq.trans u_g1 u_g2.symm)
  have ne_g1_g3 : g1 ≠ g3 := by
    have hn : slotOf a1 4 ≠ slotOf a1 6 := hPs.1.2
    intro e; subst e; exact hn (Eq.trans u_g1 u_g3.symm)
  have ne_g2_g3 : g2 ≠ g3 := by
    have hn : slotOf a1 5 ≠ slotOf a1 6 := hPs.2.1
    intro e; subst e; exact hn (Eq.trans u_g2 u_g3.symm)
  have s0_1 := (rest1 0 (not_of (by kernel_rfl))).trans s0_0
  clear R1 rest1 hS hfl hPs hBs
  clear s0_0 s1_0 s2_0 d0 z0
  refine wp_seq ?_
  cases fk1 : Rg.oneB ⟨⟨p, q⟩, ⟨r, t⟩⟩
  case false =>
   have Ffk1 := Lib.hid fk1; clear fk1
   refine wp_regx (SX W w1.heap.size [⟨g1, 60, (cR a b c d), none, #[]⟩, ⟨g2, 60, (cR p q r t), none, #[]⟩, ⟨g3, 95, (cU 0 0), none, #[]⟩] []) (TabX [fun vx => vx = .agg #[.int .u64 p, .int .u64 q, .int .i64 r, .int .i64 t], fun vx => vx = .tuple #[.int .u64 (Rg.oneV ⟨⟨p, q⟩, ⟨r, t⟩⟩), .bool (Rg.oneB ⟨⟨p, q⟩, ⟨r, t⟩⟩)], fun vx => vx = .tuple #[.int .u64 (Rg.oneV ⟨⟨p, q⟩, ⟨r, t⟩⟩), .bool (Rg.oneB ⟨⟨p, q⟩, ⟨r, t⟩⟩)], fun vx => vx = .int .u64 (Rg.oneV ⟨⟨p, q⟩, ⟨r, t⟩⟩), fun vx => vx = .bool false, fun vx => vx = .int .u64 (Rg.oneV ⟨⟨p, q⟩, ⟨r, t⟩⟩), fun vx => vx = .bool false]) (by kernel_rfl) (back_of (by kernel_rfl)) (dst_of (by kernel_rfl)) (in_ofz (by kernel_rfl) z1) (fun fl w1 hfl hw => SX.start' hw B1 hfl rfl ⟨b_g1_1, b_g2_1, b_g3_1, trivial⟩) ?h2 ?_
   case h2 =>
     intro ix ox ax wx fl ho hS hfi clo hsz hrest hdone hund
     have t5 := (hrest 5 (not_of (by kernel_rfl))).trans u_g2
     have hs : ax.tmps.size = 119 := hsz.trans z1
     have hi : ix < 7 := (Array.getElem?_eq_some_iff.1 ho).1
     clear hrest hsz hund
     obtain rfl | rfl | rfl | rfl | rfl | rfl | rfl : ix = 0 ∨ ix = 1 ∨ ix = 2 ∨ ix = 3 ∨ ix = 4 ∨ ix = 5 ∨ ix = 6 := by omega
     all_goals obtain rfl := Option.some.inj (show some _ = some ox from ho)
     ·
      have hr := hS.rowNi 1 rfl
      exact wpOp_val (v := .agg #[.int .u64 p, .int .u64 q, .int .i64 r, .int .i64 t]) (w' := wx) rfl rfl (exec_loadR 60 _ rfl g2 0 (show ax.eval (.tmp 5) = .pointer (some ⟨g2, 0, none⟩) from t5) hr [.int .u64 p, .int .u64 q, .int .i64 r, .int .i64 t] rfl _ Try.underlying60 rfl (by kernel_rfl)) ⟨_, rfl, tab_put rfl hs rfl rfl, hS.same 0 rfl⟩
     ·
      have s10 : ax.tmps.getD 10 undef = .agg #[.int .u64 p, .int .u64 q, .int .i64 r, .int .i64 t] := (hdone 0 _ rfl rfl).2 _ rfl
      refine wpOp_call (args := #[.agg #[.int .u64 p, .int .u64 q, .int .i64 r, .int .i64 t]]) rfl rfl (exec_call rfl rfl rfl (args1 (show ax.eval (.tmp 10) = .agg #[.int .u64 p, .int .u64 q, .int .i64 r, .int .i64 t] from s10)) Try.func26 (by decide +kernel) rfl) ?_
      · refine (single_n p q r t wx).mono ?_
        rintro e w' ⟨rfl, b9⟩
        exact ⟨_, rfl, _, rfl, tab_put rfl hs rfl rfl, hS.quiet 1 rfl b9⟩
     ·
      have s11 : ax.tmps.getD 11 undef = .tuple #[.int .u64 (Rg.oneV ⟨⟨p, q⟩, ⟨r, t⟩⟩), .bool (Rg.oneB ⟨⟨p, q⟩, ⟨r, t⟩⟩)] := (hdone 0 _ rfl rfl).2 _ rfl
      exact wpOp_val (v := .tuple #[.int .u64 (Rg.oneV ⟨⟨p, q⟩, ⟨r, t⟩⟩), .bool (Rg.oneB ⟨⟨p, q⟩, ⟨r, t⟩⟩)]) (w' := wx) rfl rfl (by (revert s11; generalize (.tuple #[.int .u64 (Rg.oneV ⟨⟨p, q⟩, ⟨r, t⟩⟩), .bool (Rg.oneB ⟨⟨p, q⟩, ⟨r, t⟩⟩)] : Value) = y0; intro s11); simp [execOp, Act.eval, s11]) ⟨_, rfl, tab_put rfl hs rfl rfl, hS.same 2 rfl⟩
     ·
      have s9 : ax.tmps.getD 9 undef = .tuple #[.int .u64 (Rg.oneV ⟨⟨p, q⟩, ⟨r, t⟩⟩), .bool (Rg.oneB ⟨⟨p, q⟩, ⟨r, t⟩⟩)] := (hdone 0 _ rfl rfl).2 _ rfl
      exact wpOp_val (v := .int .u64 (Rg.oneV ⟨⟨p, q⟩, ⟨r, t⟩⟩)) (w' := wx) rfl rfl (by simp [execOp, Act.eval, s9, go_sem]) ⟨_, rfl, tab_put rfl hs rfl rfl, hS.same 3 rfl⟩
     ·
      have s9 : ax.tmps.getD 9 undef = .tuple #[.int .u64 (Rg.oneV ⟨⟨p, q⟩, ⟨r, t⟩⟩), .bool (Rg.oneB ⟨⟨p, q⟩, ⟨r, t⟩⟩)] := (hdone 0 _ rfl rfl).2 _ rfl
      exact wpOp_val (v := .bool (Rg.oneB ⟨⟨p, q⟩, ⟨r, t⟩⟩)) (w' := wx) rfl rfl (by simp [execOp, Act.eval, s9, go_sem]) ⟨_, rfl, tab_put rfl hs rfl (congrArg Value.bool Ffk1.out), hS.same 4 rfl⟩
     ·
      have s12 : ax.tmps.getD 12 undef = .int .u64 (Rg.oneV ⟨⟨p, q⟩, ⟨r, t⟩⟩) := (hdone 0 _ rfl rfl).2 _ rfl
      exact wpOp_val (v := .int .u64 (Rg.oneV ⟨⟨p, q⟩, ⟨r, t⟩⟩)) (w' := wx) rfl rfl (by simp [execOp, Act.eval, s12]) ⟨_, rfl, tab_put rfl hs rfl rfl, hS.same 5 rfl⟩
     ·
      have s13 : ax.tmps.getD 13 undef = .bool false := (hdone 0 _ rfl rfl).2 _ rfl
      exact wpOp_val (v := .bool false) (w' := wx) rfl rfl (by simp [execOp, Act.eval, s13]) ⟨_, rfl, tab_put rfl hs rfl rfl, hS.same 6 rfl⟩
   intro a2 w2 fl d2 z2 rest2 R2 hfl hS
   obtain ⟨B2, n2, hBs, hAs, hPs⟩ := hS.finish hfl rfl
   replace d2 := d2.trans d1
   replace z2 := z2.trans z1
   obtain ⟨⟨l_g1_2, b_g1_2⟩, ⟨l_g2_2, b_g2_2⟩, ⟨l_g3_2, b_g3_2⟩, -⟩ := hBs
   replace l_g1_2 : g1 < w1.heap.size := l_g1_2
   replace l_g2_2 : g2 < w1.heap.size := l_g2_2
   replace l_g3_2 : g3 < w1.heap.size := l_g3_2
   have s0_2 := (rest2 0 (not_of (by kernel_rfl))).trans s0_1
   have s4_2 := (rest2 4 (not_of (by kernel_rfl))).trans u_g1
   have s5_2 := (rest2 5 (not_of (by kernel_rfl))).trans u_g2
   have s6_2 := (rest2 6 (not_of (by kernel_rfl))).trans u_g3
   have s7_2 : a2.tmps.getD 7 undef = .int .u64 (Rg.oneV ⟨⟨p, q⟩, ⟨r, t⟩⟩) := R2 5 _ rfl
   have s8_2 : a2.tmps.getD 8 undef = .bool false := R2 6 _ rfl
   clear R2 rest2 hS hfl hPs hAs
   clear u_g1 u_g2 u_g3 s0_1 b_g1_1 b_g2_1 b_g3_1 d1 z1
   refine wp_seq ?_
   refine wp_regx (SX W w2.heap.size [⟨g1, 60, (cR a b c d), none, #[]⟩, ⟨g2, 60, (cR p q r t), none, #[]⟩, ⟨g3, 95, (cU 0 0), none, #[]⟩] []) (TabX [fun vx => vx = .int .u64 (Rg.oneV ⟨⟨p, q⟩, ⟨r, t⟩⟩), fun vx => vx = .int .u64 ((Rg.oneV ⟨⟨p, q⟩, ⟨r, t⟩⟩) % 64), fun vx => vx = .int .u64 ((Rg.oneV ⟨⟨p, q⟩, ⟨r, t⟩⟩) % 64)]) (by kernel_rfl) (back_of (by kernel_rfl)) (dst_of (by kernel_rfl)) (in_ofz (by kernel_rfl) z2) (fun fl w1 hfl hw => SX.start' hw B2 hfl rfl ⟨b_g1_2, b_g2_2, b_g3_2, trivial⟩) ?h3 ?_
   case h3 =>
     intro ix ox ax wx fl ho hS hfi clo hsz hrest hdone hund
     have hs : ax.tmps.size = 119 := hsz.trans z2
     have hi : ix < 3 := (Array.getElem?_eq_some_iff.1 ho).1
     clear hrest hsz
     obtain rfl | rfl | rfl : ix = 0 ∨ ix = 1 ∨ ix = 2 := by omega
     all_goals obtain rfl := Option.some.inj (show some _ = some ox from ho)
     ·
      have s7 : ax.tmps.getD 7 undef = .int .u64 (Rg.oneV ⟨⟨p, q⟩, ⟨r, t⟩⟩) := (hund 2 _ 7 rfl rfl (not_yet clo hfi (by kernel_rfl))).trans s7_2
      exact wpOp_val (v := .int .u64 (Rg.oneV ⟨⟨p, q⟩, ⟨r, t⟩⟩)) (w' := wx) rfl rfl (by simp [execOp, Act.eval, s7]) ⟨_, rfl, tab_put rfl hs rfl rfl, hS.same 0 rfl⟩
     ·
      have s14 : ax.tmps.getD 14 undef = .int .u64 (Rg.oneV ⟨⟨p, q⟩, ⟨r, t⟩⟩) := (hdone 0 _ rfl rfl).2 _ rfl
      exact wpOp_val (v := .int .u64 ((Rg.oneV ⟨⟨p, q⟩, ⟨r, t⟩⟩) % 64)) (w' := wx) rfl rfl (exec_rem rfl (show ax.eval (.tmp 14) = .int .u64 (Rg.oneV ⟨⟨p, q⟩, ⟨r, t⟩⟩) from s14) rfl HV.out (by decide)) ⟨_, rfl, tab_put rfl hs rfl rfl, hS.same 1 rfl⟩
     ·
      have s15 : ax.tmps.getD 15 undef = .int .u64 ((Rg.oneV ⟨⟨p, q⟩, ⟨r, t⟩⟩) % 64) := (hdone 0 _ rfl rfl).2 _ rfl
      exact wpOp_val (v := .int .u64 ((Rg.oneV ⟨⟨p, q⟩, ⟨r, t⟩⟩) % 64)) (w' := wx) rfl rfl (by simp [execOp, Act.eval, s15]) ⟨_, rfl, tab_put rfl hs rfl rfl, hS.same 2 rfl⟩
   intro a3 w3 fl d3 z3 rest3 R3 hfl hS
   obtain ⟨B3, n3, hBs, hAs, hPs⟩ := hS.finish hfl rfl
   replace d3 := d3.trans d2
   replace z3 := z3.trans z2
   obtain ⟨⟨-, b_g1_3⟩, ⟨-, b_g2_3⟩, ⟨-, b_g3_3⟩, -⟩ := hBs
   have s0_3 := (rest3 0 (not_of (by kernel_rfl))).trans s0_2
   have s4_3 := (rest3 4 (not_of (by kernel_rfl))).trans s4_2
   have s5_3 := (rest3 5 (not_of (by kernel_rfl))).trans s5_2
   have s6_3 := (rest3 6 (not_of (by kernel_rfl))).trans s6_2
   have s7_3 : a3.tmps.getD 7 undef = .int .u64 ((Rg.oneV ⟨⟨p, q⟩, ⟨r, t⟩⟩) % 64) := R3 2 _ rfl
   have s8_3 := (rest3 8 (not_of (by kernel_rfl))).trans s8_2
   clear R3 rest3 hS hfl hPs hAs
   clear s0_2 s4_2 s5_2 s6_2 s7_2 s8_2 b_g1_2 b_g2_2 b_g3_2 d2 z2
   refine wp_seq ?_
   refine wp_seq ?_
   refine wp_regx (SX W w3.heap.size [⟨g1, 60, (cR a b c d), none, #[]⟩, ⟨g2, 60, (cR p q r t), none, #[]⟩, ⟨g3, 95, (cU 0 0), none, #[]⟩] []) (TabX [fun vx => vx = .int .i8 op]) (by kernel_rfl) (back_of (by kernel_rfl)) (dst_of (by kernel_rfl)) (in_ofz (by kernel_rfl) z3) (fun fl w1 hfl hw => SX.start' hw B3 hfl rfl ⟨b_g1_3, b_g2_3, b_g3_3, trivial⟩) ?h4 ?_
   case h4 =>
     intro ix ox ax wx fl ho hS hfi clo hsz hrest hdone hund
     have t0 := (hrest 0 (not_of (by kernel_rfl))).trans s0_3
     have hs : ax.tmps.size = 119 := hsz.trans z3
     have hi : ix < 1 := (Array.getElem?_eq_some_iff.1 ho).1
     clear hrest hsz hund
     obtain rfl : ix = 0 := by omega
     all_goals obtain rfl := Option.some.inj (show some _ = some ox from ho)
     ·
      exact wpOp_val (v := .int .i8 op) (w' := wx) rfl rfl (by simp [execOp, Act.eval, t0]) ⟨_, rfl, tab_put rfl hs rfl rfl, hS.same 0 rfl⟩
   intro a4 w4 fl d4 z4 rest4 R4 hfl hS
   obtain ⟨B4, n4, hBs, hAs, hPs⟩ := hS.finish hfl rfl
   replace d4 := d4.trans d3
   replace z4 := z4.trans z3
   obtain ⟨⟨-, b_g1_4⟩, ⟨-, b_g2_4⟩, ⟨-, b_g3_4⟩, -⟩ := hBs
   have s4_4 := (rest4 4 (not_of (by kernel_rfl))).trans s4_3
   have s5_4 := (rest4 5 (not_of (by kernel_rfl))).trans s5_3
   have s6_4 := (rest4 6 (not_of (by kernel_rfl))).trans s6_3
   have s7_4 := (rest4 7 (not_of (by kernel_rfl))).trans s7_3
   have s8_4 := (rest4 8 (not_of (by kernel_rfl))).trans s8_3
   have s16_4 : a4.tmps.getD 16 undef = .int .i8 op := R4 0 _ rfl
   clear R4 rest4 hS hfl hPs hAs
   clear s0_3 s4_3 s5_3 s6_3 s7_3 s8_3 b_g1_3 b_g2_3 b_g3_3 d3 z3
   refine wp_block ?_
   refine wp_seq ?_
   cases fk2 : op == 5
   case true =>
    have Ffk2 := Lib.hid fk2; clear fk2
    refine wp_regx (SX W w4.heap.size [⟨g1, 60, (cR a b c d), none, #[]⟩, ⟨g2, 60, (cR p q r t), none, #[]⟩, ⟨g3, 95, (cU 0 0), none, #[]⟩] []) (TabX [fun vx => vx = .bool true, fun vx => vx = .bool true]) (by kernel_rfl) (back_of (by kernel_rfl)) (dst_of (by kernel_rfl)) (in_ofz (by kernel_rfl) z4) (fun fl w1 hfl hw => SX.start' hw B4 hfl rfl ⟨b_g1_4, b_g2_4, b_g3_4, trivial⟩) ?h5 ?_
    case h5 =>
      intro ix ox ax wx fl ho hS hfi clo hsz hrest hdone hund
      have t16 := (hrest 16 (not_of (by kernel_rfl))).trans s16_4
      have hs : ax.tmps.size = 119 := hsz.trans z4
      have hi : ix < 2 := (Array.getElem?_eq_some_iff.1 ho).1
      clear hrest hsz hund
      obtain rfl | rfl : ix = 0 ∨ ix = 1 := by omega
      all_goals obtain rfl := Option.some.inj (show some _ = some ox from ho)
      ·
       exact wpOp_val (v := .bool (op == 5)) (w' := wx) rfl rfl (by (simp [execOp, Act.eval, t16, go_sem]; try (simp only [IntKind.wrap_i64, wrap64]))) ⟨_, rfl, tab_put rfl hs rfl (congrArg Value.bool Ffk2.out), hS.same 0 rfl⟩
      ·
       have s18 : ax.tmps.getD 18 undef = .bool true := (hdone 0 _ rfl rfl).2 _ rfl
       exact wpOp_val (v := .bool true) (w' := wx) rfl rfl (by simp [execOp, Act.eval, s18]) ⟨_, rfl, tab_put rfl hs rfl rfl, hS.same 1 rfl⟩
    intro a5 w5 fl d5 z5 rest5 R5 hfl hS
    obtain ⟨B5, n5, hBs, hAs, hPs⟩ := hS.finish hfl rfl
    replace d5 := d5.trans d4
    replace z5 := z5.trans z4
    obtain ⟨⟨-, b_g1_5⟩, ⟨-, b_g2_5⟩, ⟨-, b_g3_5⟩, -⟩ := hBs
    have s4_5 := (rest5 4 (not_of (by kernel_rfl))).trans s4_4
    have s5_5 := (rest5 5 (not_of (by kernel_rfl))).trans s5_4
    have s6_5 := (rest5 6 (not_of (by kernel_rfl))).trans s6_4
    have s7_5 := (rest5 7 (not_of (by kernel_rfl))).trans s7_4
    have s8_5 := (rest5 8 (not_of (by kernel_rfl))).trans s8_4
    have s16_5 := (rest5 16 (not_of (by kernel_rfl))).trans s16_4
    have s17_5 : a5.tmps.getD 17 undef = .bool true := R5 1 _ rfl
    clear R5 rest5 hS hfl hPs hAs
    clear s4_4 s5_4 s6_4 s7_4 s8_4 s16_4 b_g1_4 b_g2_4 b_g3_4 d4 z4
    refine wp_cond_true (show a5.tmps.getD 17 undef = .bool true from s17_5) ?_
    refine wp_seq ?_
    refine wp_regx (SX W w5.heap.size [⟨g1, 60, (cR a b c d), none, #[]⟩, ⟨g2, 60, (cR p q r t), none, #[]⟩, ⟨g3, 95, (cU 0 0), some 6, (cU 0 (min b q))⟩] []) (TabX [fun vx => vx = .pointer (some ⟨g1, 1, none⟩), fun vx => vx = .int .u64 b, fun vx => vx = .pointer (some ⟨g2, 1, none⟩), fun vx => vx = .int .u64 q, fun vx => vx = .int .u64 (min b q), fun vx => vx = .agg #[.int .u64 0, .int .u64 (min b q)], fun _ => True]) (by kernel_rfl) (back_of (by kernel_rfl)) (dst_of (by kernel_rfl)) (in_ofz (by kernel_rfl) z5) (fun fl w1 hfl hw => SX.start' hw B5 hfl rfl ⟨b_g1_5, b_g2_5, b_g3_5, trivial⟩) ?h6 ?_
    case h6 =>
      intro ix ox ax wx fl ho hS hfi clo hsz hrest hdone hund
      have t4 := (hrest 4 (not_of (by kernel_rfl))).trans s4_5
      have t5 := (hrest 5 (not_of (by kernel_rfl))).trans s5_5
      have t6 := (hrest 6 (not_of (by kernel_rfl))).trans s6_5
      have hs : ax.tmps.size = 119 := hsz.trans z5
      have hi : ix < 7 := (Array.getElem?_eq_some_iff.1 ho).1
      clear hrest hsz hund
      obtain rfl | rfl | rfl | rfl | rfl | rfl | rfl : ix = 0 ∨ ix = 1 ∨ ix = 2 ∨ ix = 3 ∨ ix = 4 ∨ ix = 5 ∨ ix = 6 := by omega
      all_goals obtain rfl := Option.some.inj (show some _ = some ox from ho)
      ·
       exact wpOp_val (v := .pointer (some ⟨g1, 1, none⟩)) (w' := wx) rfl rfl (by simp [execOp, Act.eval, t4, go_sem]) ⟨_, rfl, tab_put rfl hs rfl rfl, hS.same 0 rfl⟩
      ·
       have s19 : ax.tmps.getD 19 undef = .pointer (some ⟨g1, 1, none⟩) := (hdone 0 _ rfl rfl).2 _ rfl
       have hr := hS.rowNi 0 rfl
       have hc := exec_load1 (i := 1) hr (v := .int .u64 b) rfl
       exact wpOp_val (v := .int .u64 b) (w' := wx) rfl rfl (by simp [execOp, Act.eval, s19, hc, go_sem]) ⟨_, rfl, tab_put rfl hs rfl rfl, hS.same 1 rfl⟩
      ·
       exact wpOp_val (v := .pointer (some ⟨g2, 1, none⟩)) (w' := wx) rfl rfl (by simp [execOp, Act.eval, t5, go_sem]) ⟨_, rfl, tab_put rfl hs rfl rfl, hS.same 2 rfl⟩
      ·
       have s21 : ax.tmps.getD 21 undef = .pointer (some ⟨g2, 1, none⟩) := (hdone 0 _ rfl rfl).2 _ rfl
       have hr := hS.rowNi 1 rfl
       have hc := exec_load1 (i := 1) hr (v := .int .u64 q) rfl
       exact wpOp_val (v := .int .u64 q) (w' := wx) rfl rfl (by simp [execOp, Act.eval, s21, hc, go_sem]) ⟨_, rfl, tab_put rfl hs rfl rfl, hS.same 3 rfl⟩
      ·
       have s20 : ax.tmps.getD 20 undef = .int .u64 b := (hdone 0 _ rfl rfl).2 _ rfl
       have s22 : ax.tmps.getD 22 undef = .int .u64 q := (hdone 1 _ rfl rfl).2 _ rfl
       exact wpOp_val (v := .int .u64 (min b q)) (w' := wx) rfl rfl (by simp [execOp, Act.eval, s20, s22, go_sem]) ⟨_, rfl, tab_put rfl hs rfl rfl, hS.same 4 rfl⟩
      ·
       have s23 : ax.tmps.getD 23 undef = .int .u64 (min b q) := (hdone 0 _ rfl rfl).2 _ rfl
       refine wpOp_call (args := #[.int .u64 (min b q)]) rfl rfl (exec_call rfl rfl rfl (args1 (show ax.eval (.tmp 23) = .int .u64 (min b q) from s23)) Try.func81 (by decide +kernel) rfl) ?_
       · refine (upTo_n (min b q) wx).mono ?_
         rintro e w' ⟨rfl, b9⟩
         exact ⟨_, rfl, _, rfl, tab_put rfl hs rfl rfl, hS.quiet 5 rfl b9⟩
      ·
       have s24 : ax.tmps.getD 24 undef = .agg #[.int .u64 0, .int .u64 (min b q)] := (hdone 0 _ rfl rfl).2 _ rfl
       have hr := hS.rowFi 2 rfl hfi
       exact wpOp_skp (w' := wx.setRow g3 #[.int .u64 0, .int .u64 (min b q)]) rfl rfl (exec_storeR 95 _ _ rfl g3 #[.int .u64 0, .int .u64 (min b q)] (show ax.eval (.tmp 6) = .pointer (some ⟨g3, 0, none⟩) from t6) (show ax.eval (.tmp 24) = .agg #[.int .u64 0, .int .u64 (min b q)] from s24) hr (by kernel_rfl) rfl (by simp [Value.oneCell'])) ⟨undef, rfl, trivial, hS.storeBi 6 2 rfl q_g3 rfl ⟨(show g1 ≠ g3 by omega), (show g2 ≠ g3 by omega), trivial⟩ (stored_setRow wx g3 _ _ _ hr)⟩
    intro a6 w6 fl d6 z6 rest6 R6 hfl hS
    obtain ⟨B6, n6, hBs, hAs, hPs⟩ := hS.finish hfl rfl
    replace d6 := d6.trans d5
    replace z6 := z6.trans z5
    obtain ⟨⟨-, b_g1_6⟩, ⟨-, b_g2_6⟩, ⟨-, b_g3_6⟩, -⟩ := hBs
    have s6_6 := (rest6 6 (not_of (by kernel_rfl))).trans s6_5
    clear R6 rest6 hS hfl hPs hAs
    clear s4_5 s5_5 s6_5 s7_5 s8_5 s16_5 s17_5 b_g1_5 b_g2_5 b_g3_5 d5 z5
    refine wp_ret ?_
    try simp only [Exit.inBlock, Exit.then]
    refine bodyPost_ret (res_c (fn := Try.f92) rfl s6_6 (load_row 95 b_g3_6 Try.underlying95 rfl (by kernel_rfl))) d6 ?_
    have ho : op = 5 := yb Ffk2.out
    have HE : restU op ⟨⟨a, b⟩, ⟨c, d⟩⟩ ⟨⟨p, q⟩, ⟨r, t⟩⟩ = ⟨0, min b q⟩ := by
      unfold restU
      rw [if_pos ho]
      try rfl
    have HE2 : (.agg #[.int .u64 0, .int .u64 (min b q)] : Value) = .agg #[.int .u64 (restU op ⟨⟨a, b⟩, ⟨c, d⟩⟩ ⟨⟨p, q⟩, ⟨r, t⟩⟩).lo, .int .u64 (restU op ⟨⟨a, b⟩, ⟨c, d⟩⟩ ⟨⟨p, q⟩, ⟨r, t⟩⟩).hi] := by rw [HE]
    exact ⟨retV HE2, B6⟩
   have Ffk2 := Lib.hid fk2; clear fk2
   refine wp_regx (SX W w4.heap.size [⟨g1, 60, (cR a b c d), none, #[]⟩, ⟨g2, 60, (cR p q r t), none, #[]⟩, ⟨g3, 95, (cU 0 0), none, #[]⟩] []) (TabX [fun vx => vx = .bool false, fun vx => vx = .bool false]) (by kernel_rfl) (back_of (by kernel_rfl)) (dst_of (by kernel_rfl)) (in_ofz (by kernel_rfl) z4) (fun fl w1 hfl hw => SX.start' hw B4 hfl rfl ⟨b_g1_4, b_g2_4, b_g3_4, trivial⟩) ?h7 ?_
   case h7 =>
     intro ix ox ax wx fl ho hS hfi clo hsz hrest hdone hund
     have t16 := (hrest 16 (not_of (by kernel_rfl))).trans s16_4
     have hs : ax.tmps.size = 119 := hsz.trans z4
     have hi : ix < 2 := (Array.getElem?_eq_some_iff.1 ho).1
     clear hrest hsz hund
     obtain rfl | rfl : ix = 0 ∨ ix = 1 := by omega
     all_goals obtain rfl := Option.some.inj (show some _ = some ox from ho)
     ·
      exact wpOp_val (v := .bool (op == 5)) (w' := wx) rfl rfl (by (simp [execOp, Act.eval, t16, go_sem]; try (simp only [IntKind.wrap_i64, wrap64]))) ⟨_, rfl, tab_put rfl hs rfl (congrArg Value.bool Ffk2.out), hS.same 0 rfl⟩
     ·
      have s18 : ax.tmps.getD 18 undef = .bool false := (hdone 0 _ rfl rfl).2 _ rfl
      exact wpOp_val (v := .bool false) (w' := wx) rfl rfl (by simp [execOp, Act.eval, s18]) ⟨_, rfl, tab_put rfl hs rfl rfl, hS.same 1 rfl⟩
   intro a5 w5 fl d5 z5 rest5 R5 hfl hS
   obtain ⟨B5, n5, hBs, hAs, hPs⟩ := hS.finish hfl rfl
   replace d5 := d5.trans d4
   replace z5 := z5.trans z4
   obtain ⟨⟨-, b_g1_5⟩, ⟨-, b_g2_5⟩, ⟨-, b_g3_5⟩, -⟩ := hBs
   have s4_5 := (rest5 4 (not_of (by kernel_rfl))).trans s4_4
   have s5_5 := (rest5 5 (not_of (by kernel_rfl))).trans s5_4
   have s6_5 := (rest5 6 (not_of (by kernel_rfl))).trans s6_4
   have s7_5 := (rest5 7 (not_of (by kernel_rfl))).trans s7_4
   have s8_5 := (rest5 8 (not_of (by kernel_rfl))).trans s8_4
   have s16_5 := (rest5 16 (not_of (by kernel_rfl))).trans s16_4
   have s17_5 : a5.tmps.getD 17 undef = .bool false := R5 1 _ rfl
   clear R5 rest5 hS hfl hPs hAs
   clear s4_4 s5_4 s6_4 s7_4 s8_4 s16_4 b_g1_4 b_g2_4 b_g3_4 d4 z4
   refine wp_cond_false (show a5.tmps.getD 17 undef = .bool false from s17_5) ?_
   refine wp_seq ?_
   cases fk3 : op == 4
   case true =>
    have Ffk3 := Lib.hid fk3; clear fk3
    refine wp_regx (SX W w5.heap.size [⟨g1, 60, (cR a b c d), none, #[]⟩, ⟨g2, 60, (cR p q r t), none, #[]⟩, ⟨g3, 95, (cU 0 0), none, #[]⟩] []) (TabX [fun vx => vx = .bool true, fun vx => vx = .bool true]) (by kernel_rfl) (back_of (by kernel_rfl)) (dst_of (by kernel_rfl)) (in_ofz (by kernel_rfl) z5) (fun fl w1 hfl hw => SX.start' hw B5 hfl rfl ⟨b_g1_5, b_g2_5, b_g3_5, trivial⟩) ?h8 ?_
    case h8 =>
      intro ix ox ax wx fl ho hS hfi clo hsz hrest hdone hund
      have t16 := (hrest 16 (not_of (by kernel_rfl))).trans s16_5
      have hs : ax.tmps.size = 119 := hsz.trans z5
      have hi : ix < 2 := (Array.getElem?_eq_some_iff.1 ho).1
      clear hrest hsz hund
      obtain rfl | rfl : ix = 0 ∨ ix = 1 := by omega
      all_goals obtain rfl := Option.some.inj (show some _ = some ox from ho)
      ·
       exact wpOp_val (v := .bool (op == 4)) (w' := wx) rfl rfl (by (simp [execOp, Act.eval, t16, go_sem]; try (simp only [IntKind.wrap_i64, wrap64]))) ⟨_, rfl, tab_put rfl hs rfl (congrArg Value.bool Ffk3.out), hS.same 0 rfl⟩
      ·
       have s26 : ax.tmps.getD 26 undef = .bool true := (hdone 0 _ rfl rfl).2 _ rfl
       exact wpOp_val (v := .bool true) (w' := wx) rfl rfl (by simp [execOp, Act.eval, s26]) ⟨_, rfl, tab_put rfl hs rfl rfl, hS.same 1 rfl⟩
    intro a6 w6 fl d6 z6 rest6 R6 hfl hS
    obtain ⟨B6, n6, hBs, hAs, hPs⟩ := hS.finish hfl rfl
    replace d6 := d6.trans d5
    replace z6 := z6.trans z5
    obtain ⟨⟨-, b_g1_6⟩, ⟨-, b_g2_6⟩, ⟨-, b_g3_6⟩, -⟩ := hBs
    have s4_6 := (rest6 4 (not_of (by kernel_rfl))).trans s4_5
    have s5_6 := (rest6 5 (not_of (by kernel_rfl))).trans s5_5
    have s6_6 := (rest6 6 (not_of (by kernel_rfl))).trans s6_5
    have s7_6 := (rest6 7 (not_of (by kernel_rfl))).trans s7_5
    have s8_6 := (rest6 8 (not_of (by kernel_rfl))).trans s8_5
    have s16_6 := (rest6 16 (not_of (by kernel_rfl))).trans s16_5
    have s25_6 : a6.tmps.getD 25 undef = .bool true := R6 1 _ rfl
    clear R6 rest6 hS hfl hPs hAs
    clear s4_5 s5_5 s6_5 s7_5 s8_5 s16_5 s17_5 b_g1_5 b_g2_5 b_g3_5 d5 z5
    refine wp_cond_true (show a6.tmps.getD 25 undef = .bool true from s25_6) ?_
    refine wp_seq ?_
    refine wp_regx (SX W w6.heap.size [⟨g1, 60, (cR a b c d), none, #[]⟩, ⟨g2, 60, (cR p q r t), none, #[]⟩, ⟨g3, 95, (cU 0 0), some 12, (cU (max a p) (onesI (Int.toNat (bits .or .u64 b q))))⟩] []) (TabX [fun vx => vx = .pointer (some ⟨g1, 0, none⟩), fun vx => vx = .int .u64 a, fun vx => vx = .pointer (some ⟨g2, 0, none⟩), fun vx => vx = .int .u64 p, fun vx => vx = .int .u64 (max a p), fun vx => vx = .pointer (some ⟨g1, 1, none⟩), fun vx => vx = .int .u64 b, fun vx => vx = .pointer (some ⟨g2, 1, none⟩), fun vx => vx = .int .u64 q, fun vx => vx = .int .u64 (bits .or .u64 b q), fun vx => vx = .int .u64 (onesI (Int.toNat (bits .or .u64 b q))), fun vx => vx = .agg #[.int .u64 (max a p), .int .u64 (onesI (Int.toNat (bits .or .u64 b q)))], fun _ => True]) (by kernel_rfl) (back_of (by kernel_rfl)) (dst_of (by kernel_rfl)) (in_ofz (by kernel_rfl) z6) (fun fl w1 hfl hw => SX.start' hw B6 hfl rfl ⟨b_g1_6, b_g2_6, b_g3_6, trivial⟩) ?h9 ?_
    case h9 =>
      intro ix ox ax wx fl ho hS hfi clo hsz hrest hdone hund
      have t4 := (hrest 4 (not_of (by kernel_rfl))).trans s4_6
      have t5 := (hrest 5 (not_of (by kernel_rfl))).trans s5_6
      have t6 := (hrest 6 (not_of (by kernel_rfl))).trans s6_6
      have hs : ax.tmps.size = 119 := hsz.trans z6
      have hi : ix < 13 := (Array.getElem?_eq_some_iff.1 ho).1
      clear hrest hsz hund
      obtain rfl | rfl | rfl | rfl | rfl | rfl | rfl | rfl | rfl | rfl | rfl | rfl | rfl : ix = 0 ∨ ix = 1 ∨ ix = 2 ∨ ix = 3 ∨ ix = 4 ∨ ix = 5 ∨ ix = 6 ∨ ix = 7 ∨ ix = 8 ∨ ix = 9 ∨ ix = 10 ∨ ix = 11 ∨ ix = 12 := by omega
      all_goals obtain rfl := Option.some.inj (show some _ = some ox from ho)
      ·
       exact wpOp_val (v := .pointer (some ⟨g1, 0, none⟩)) (w' := wx) rfl rfl (by simp [execOp, Act.eval, t4, go_sem]) ⟨_, rfl, tab_put rfl hs rfl rfl, hS.same 0 rfl⟩
      ·
       have s27 : ax.tmps.getD 27 undef = .pointer (some ⟨g1, 0, none⟩) := (hdone 0 _ rfl rfl).2 _ rfl
       have hr := hS.rowNi 0 rfl
       have hc := exec_load1 (i := 0) hr (v := .int .u64 a) rfl
       exact wpOp_val (v := .int .u64 a) (w' := wx) rfl rfl (by simp [execOp, Act.eval, s27, hc, go_sem]) ⟨_, rfl, tab_put rfl hs rfl rfl, hS.same 1 rfl⟩
      ·
       exact wpOp_val (v := .pointer (some ⟨g2, 0, none⟩)) (w' := wx) rfl rfl (by simp [execOp, Act.eval, t5, go_sem]) ⟨_, rfl, tab_put rfl hs rfl rfl, hS.same 2 rfl⟩
      ·
       have s29 : ax.tmps.getD 29 undef = .pointer (some ⟨g2, 0, none⟩) := (hdone 0 _ rfl rfl).2 _ rfl
       have hr := hS.rowNi 1 rfl
       have hc := exec_load1 (i := 0) hr (v := .int .u64 p) rfl
       exact wpOp_val (v := .int .u64 p) (w' := wx) rfl rfl (by simp [execOp, Act.eval, s29, hc, go_sem]) ⟨_, rfl, tab_put rfl hs rfl rfl, hS.same 3 rfl⟩
      ·
       have s28 : ax.tmps.getD 28 undef = .int .u64 a := (hdone 0 _ rfl rfl).2 _ rfl
       have s30 : ax.tmps.getD 30 undef = .int .u64 p := (hdone 1 _ rfl rfl).2 _ rfl
       exact wpOp_val (v := .int .u64 (max a p)) (w' := wx) rfl rfl (by simp [execOp, Act.eval, s28, s30, go_sem]) ⟨_, rfl, tab_put rfl hs rfl rfl, hS.same 4 rfl⟩
      ·
       exact wpOp_val (v := .pointer (some ⟨g1, 1, none⟩)) (w' := wx) rfl rfl (by simp [execOp, Act.eval, t4, go_sem]) ⟨_, rfl, tab_put rfl hs rfl rfl, hS.same 5 rfl⟩
      ·
       have s32 : ax.tmps.getD 32 undef = .pointer (some ⟨g1, 1, none⟩) := (hdone 0 _ rfl rfl).2 _ rfl
       have hr := hS.rowNi 0 rfl
       have hc := exec_load1 (i := 1) hr (v := .int .u64 b) rfl
       exact wpOp_val (v := .int .u64 b) (w' := wx) rfl rfl (by simp [execOp, Act.eval, s32, hc, go_sem]) ⟨_, rfl, tab_put rfl hs rfl rfl, hS.same 6 rfl⟩
      ·
       exact wpOp_val (v := .pointer (some ⟨g2, 1, none⟩)) (w' := wx) rfl rfl (by simp [execOp, Act.eval, t5, go_sem]) ⟨_, rfl, tab_put rfl hs rfl rfl, hS.same 7 rfl⟩
      ·
       have s34 : ax.tmps.getD 34 undef = .pointer (some ⟨g2, 1, none⟩) := (hdone 0 _ rfl rfl).2 _ rfl
       have hr := hS.rowNi 1 rfl
       have hc := exec_load1 (i := 1) hr (v := .int .u64 q) rfl
       exact wpOp_val (v := .int .u64 q) (w' := wx) rfl rfl (by simp [execOp, Act.eval, s34, hc, go_sem]) ⟨_, rfl, tab_put rfl hs rfl rfl, hS.same 8 rfl⟩
      ·
       have s33 : ax.tmps.getD 33 undef = .int .u64 b := (hdone 0 _ rfl rfl).2 _ rfl
       have s35 : ax.tmps.getD 35 undef = .int .u64 q := (hdone 1 _ rfl rfl).2 _ rfl
       exact wpOp_val (v := .int .u64 (bits .or .u64 b q)) (w' := wx) rfl rfl (by (simp [execOp, Act.eval, s33, s35, go_sem]; try (simp only [IntKind.wrap_i64, wrap64]))) ⟨_, rfl, tab_put rfl hs rfl rfl, hS.same 9 rfl⟩
      ·
       have s36 : ax.tmps.getD 36 undef = .int .u64 (bits .or .u64 b q) := (hdone 0 _ rfl rfl).2 _ rfl
       refine wpOp_call (args := #[.int .u64 (bits .or .u64 b q)]) rfl rfl (exec_call rfl rfl rfl (args1 (show ax.eval (.tmp 36) = .int .u64 (bits .or .u64 b q) from s36)) Try.func130 (by decide +kernel) rfl) ?_
       · refine (ones_n (bits .or .u64 b q) wx HR.out.1 HR.out.2).mono ?_
         rintro e w' ⟨rfl, b9⟩
         exact ⟨_, rfl, _, rfl, tab_put rfl hs rfl rfl, hS.quiet 10 rfl b9⟩
      ·
       have s31 : ax.tmps.getD 31 undef = .int .u64 (max a p) := (hdone 0 _ rfl rfl).2 _ rfl
       have s37 : ax.tmps.getD 37 undef = .int .u64 (onesI (Int.toNat (bits .or .u64 b q))) := (hdone 1 _ rfl rfl).2 _ rfl
       exact wpOp_val (v := .agg #[.int .u64 (max a p), .int .u64 (onesI (Int.toNat (bits .or .u64 b q)))]) (w' := wx) rfl rfl (exec_build rfl (parts2 (show ax.eval (.tmp 31) = .int .u64 (max a p) from s31) (show ax.eval (.tmp 37) = .int .u64 (onesI (Int.toNat (bits .or .u64 b q))) from s37)) (by kernel_rfl)) ⟨_, rfl, tab_put rfl hs rfl rfl, hS.same 11 rfl⟩
      ·
       have s38 : ax.tmps.getD 38 undef = .agg #[.int .u64 (max a p), .int .u64 (onesI (Int.toNat (bits .or .u64 b q)))] := (hdone 0 _ rfl rfl).2 _ rfl
       have hr := hS.rowFi 2 rfl hfi
       exact wpOp_skp (w' := wx.setRow g3 #[.int .u64 (max a p), .int .u64 (onesI (Int.toNat (bits .or .u64 b q)))]) rfl rfl (exec_storeR 95 _ _ rfl g3 #[.int .u64 (max a p), .int .u64 (onesI (Int.toNat (bits .or .u64 b q)))] (show ax.eval (.tmp 6) = .pointer (some ⟨g3, 0, none⟩) from t6) (show ax.eval (.tmp 38) = .agg #[.int .u64 (max a p), .int .u64 (onesI (Int.toNat (bits .or .u64 b q)))] from s38) hr (by kernel_rfl) rfl (by simp [Value.oneCell'])) ⟨undef, rfl, trivial, hS.storeBi 12 2 rfl q_g3 rfl ⟨(show g1 ≠ g3 by omega), (show g2 ≠ g3 by omega), trivial⟩ (stored_setRow wx g3 _ _ _ hr)⟩
    intro a7 w7 fl d7 z7 rest7 R7 hfl hS
    obtain ⟨B7, n7, hBs, hAs, hPs⟩ := hS.finish hfl rfl
    replace d7 := d7.trans d6
    replace z7 := z7.trans z6
    obtain ⟨⟨-, b_g1_7⟩, ⟨-, b_g2_7⟩, ⟨-, b_g3_7⟩, -⟩ := hBs
    have s6_7 := (rest7 6 (not_of (by kernel_rfl))).trans s6_6
    clear R7 rest7 hS hfl hPs hAs
    clear s4_6 s5_6 s6_6 s7_6 s8_6 s16_6 s25_6 b_g1_6 b_g2_6 b_g3_6 d6 z6
    refine wp_ret ?_
    try simp only [Exit.inBlock, Exit.then]
    refine bodyPost_ret (res_c (fn := Try.f92) rfl s6_7 (load_row 95 b_g3_7 Try.underlying95 rfl (by kernel_rfl))) d7 ?_
    have no5 := nb Ffk2.out
    have ho : op = 4 := yb Ffk3.out
    have HE : restU op ⟨⟨a, b⟩, ⟨c, d⟩⟩ ⟨⟨p, q⟩, ⟨r, t⟩⟩ = ⟨max a p, onesI (Int.toNat (bits .or .u64 b q))⟩ := by
      unfold restU
      rw [if_neg no5]
      rw [if_pos ho]
      rw [← HR2.out]
      try rfl
    have HE2 : (.agg #[.int .u64 (max a p), .int .u64 (onesI (Int.toNat (bits .or .u64 b q)))] : Value) = .agg #[.int .u64 (restU op ⟨⟨a, b⟩, ⟨c, d⟩⟩ ⟨⟨p, q⟩, ⟨r, t⟩⟩).lo, .int .u64 (restU op ⟨⟨a, b⟩, ⟨c, d⟩⟩ ⟨⟨p, q⟩, ⟨r, t⟩⟩).hi] := by rw [HE]
    exact ⟨retV HE2, B7⟩
   have Ffk3 := Lib.hid fk3; clear fk3
   refine wp_regx (SX W w5.heap.size [⟨g1, 60, (cR a b c d), none, #[]⟩, ⟨g2, 60, (cR p q r t), none, #[]⟩, ⟨g3, 95, (cU 0 0), none, #[]⟩] []) (TabX [fun vx => vx = .bool false, fun vx => vx = .bool false]) (by kernel_rfl) (back_of (by kernel_rfl)) (dst_of (by kernel_rfl)) (in_ofz (by kernel_rfl) z5) (fun fl w1 hfl hw => SX.start' hw B5 hfl rfl ⟨b_g1_5, b_g2_5, b_g3_5, trivial⟩) ?h10 ?_
   case h10 =>
     intro ix ox ax wx fl ho hS hfi clo hsz hrest hdone hund
     have t16 := (hrest 16 (not_of (by kernel_rfl))).trans s16_5
     have hs : ax.tmps.size = 119 := hsz.trans z5
     have hi : ix < 2 := (Array.getElem?_eq_some_iff.1 ho).1
     clear hrest hsz hund
     obtain rfl | rfl : ix = 0 ∨ ix = 1 := by omega
     all_goals obtain rfl := Option.some.inj (show some _ = some ox from ho)
     ·
      exact wpOp_val (v := .bool (op == 4)) (w' := wx) rfl rfl (by (simp [execOp, Act.eval, t16, go_sem]; try (simp only [IntKind.wrap_i64, wrap64]))) ⟨_, rfl, tab_put rfl hs rfl (congrArg Value.bool Ffk3.out), hS.same 0 rfl⟩
     ·
      have s26 : ax.tmps.getD 26 undef = .bool false := (hdone 0 _ rfl rfl).2 _ rfl
      exact wpOp_val (v := .bool false) (w' := wx) rfl rfl (by simp [execOp, Act.eval, s26]) ⟨_, rfl, tab_put rfl hs rfl rfl, hS.same 1 rfl⟩
   intro a6 w6 fl d6 z6 rest6 R6 hfl hS
   obtain ⟨B6, n6, hBs, hAs, hPs⟩ := hS.finish hfl rfl
   replace d6 := d6.trans d5
   replace z6 := z6.trans z5
   obtain ⟨⟨-, b_g1_6⟩, ⟨-, b_g2_6⟩, ⟨-, b_g3_6⟩, -⟩ := hBs
   have s4_6 := (rest6 4 (not_of (by kernel_rfl))).trans s4_5
   have s5_6 := (rest6 5 (not_of (by kernel_rfl))).trans s5_5
   have s6_6 := (rest6 6 (not_of (by kernel_rfl))).trans s6_5
   have s7_6 := (rest6 7 (not_of (by kernel_rfl))).trans s7_5
   have s8_6 := (rest6 8 (not_of (by kernel_rfl))).trans s8_5
   have s16_6 := (rest6 16 (not_of (by kernel_rfl))).trans s16_5
   have s25_6 : a6.tmps.getD 25 undef = .bool false := R6 1 _ rfl
   clear R6 rest6 hS hfl hPs hAs
   clear s4_5 s5_5 s6_5 s7_5 s8_5 s16_5 s17_5 b_g1_5 b_g2_5 b_g3_5 d5 z5
   refine wp_cond_false (show a6.tmps.getD 25 undef = .bool false from s25_6) ?_
   refine wp_seq ?_
   cases fk4 : op == 10
   case true =>
    have Ffk4 := Lib.hid fk4; clear fk4
    refine wp_regx (SX W w6.heap.size [⟨g1, 60, (cR a b c d), none, #[]⟩, ⟨g2, 60, (cR p q r t), none, #[]⟩, ⟨g3, 95, (cU 0 0), none, #[]⟩] []) (TabX [fun vx => vx = .bool true, fun vx => vx = .bool true]) (by kernel_rfl) (back_of (by kernel_rfl)) (dst_of (by kernel_rfl)) (in_ofz (by kernel_rfl) z6) (fun fl w1 hfl hw => SX.start' hw B6 hfl rfl ⟨b_g1_6, b_g2_6, b_g3_6, trivial⟩) ?h11 ?_
    case h11 =>
      intro ix ox ax wx fl ho hS hfi clo hsz hrest hdone hund
      have t16 := (hrest 16 (not_of (by kernel_rfl))).trans s16_6
      have hs : ax.tmps.size = 119 := hsz.trans z6
      have hi : ix < 2 := (Array.getElem?_eq_some_iff.1 ho).1
      clear hrest hsz hund
      obtain rfl | rfl : ix = 0 ∨ ix = 1 := by omega
      all_goals obtain rfl := Option.some.inj (show some _ = some ox from ho)
      ·
       exact wpOp_val (v := .bool (op == 10)) (w' := wx) rfl rfl (by (simp [execOp, Act.eval, t16, go_sem]; try (simp only [IntKind.wrap_i64, wrap64]))) ⟨_, rfl, tab_put rfl hs rfl (congrArg Value.bool Ffk4.out), hS.same 0 rfl⟩
      ·
       have s40 : ax.tmps.getD 40 undef = .bool true := (hdone 0 _ rfl rfl).2 _ rfl
       exact wpOp_val (v := .bool true) (w' := wx) rfl rfl (by simp [execOp, Act.eval, s40]) ⟨_, rfl, tab_put rfl hs rfl rfl, hS.same 1 rfl⟩
    intro a7 w7 fl d7 z7 rest7 R7 hfl hS
    obtain ⟨B7, n7, hBs, hAs, hPs⟩ := hS.finish hfl rfl
    replace d7 := d7.trans d6
    replace z7 := z7.trans z6
    obtain ⟨⟨-, b_g1_7⟩, ⟨-, b_g2_7⟩, ⟨-, b_g3_7⟩, -⟩ := hBs
    have s4_7 := (rest7 4 (not_of (by kernel_rfl))).trans s4_6
    have s5_7 := (rest7 5 (not_of (by kernel_rfl))).trans s5_6
    have s6_7 := (rest7 6 (not_of (by kernel_rfl))).trans s6_6
    have s7_7 := (rest7 7 (not_of (by kernel_rfl))).trans s7_6
    have s8_7 := (rest7 8 (not_of (by kernel_rfl))).trans s8_6
    have s16_7 := (rest7 16 (not_of (by kernel_rfl))).trans s16_6
    have s39_7 : a7.tmps.getD 39 undef = .bool true := R7 1 _ rfl
    clear R7 rest7 hS hfl hPs hAs
    clear s4_6 s5_6 s6_6 s7_6 s8_6 s16_6 s25_6 b_g1_6 b_g2_6 b_g3_6 d6 z6
    refine wp_cond_true (show a7.tmps.getD 39 undef = .bool true from s39_7) ?_
    refine wp_seq ?_
    refine wp_regx (SX W w7.heap.size [⟨g1, 60, (cR a b c d), none, #[]⟩, ⟨g2, 60, (cR p q r t), none, #[]⟩, ⟨g3, 95, (cU 0 0), some 7, (cU 0 (onesI (Int.toNat (bits .or .u64 b q))))⟩] []) (TabX [fun vx => vx = .pointer (some ⟨g1, 1, none⟩), fun vx => vx = .int .u64 b, fun vx => vx = .pointer (some ⟨g2, 1, none⟩), fun vx => vx = .int .u64 q, fun vx => vx = .int .u64 (bits .or .u64 b q), fun vx => vx = .int .u64 (onesI (Int.toNat (bits .or .u64 b q))), fun vx => vx = .agg #[.int .u64 0, .int .u64 (onesI (Int.toNat (bits .or .u64 b q)))], fun _ => True]) (by kernel_rfl) (back_of (by kernel_rfl)) (dst_of (by kernel_rfl)) (in_ofz (by kernel_rfl) z7) (fun fl w1 hfl hw => SX.start' hw B7 hfl rfl ⟨b_g1_7, b_g2_7, b_g3_7, trivial⟩) ?h12 ?_
    case h12 =>
      intro ix ox ax wx fl ho hS hfi clo hsz hrest hdone hund
      have t4 := (hrest 4 (not_of (by kernel_rfl))).trans s4_7
      have t5 := (hrest 5 (not_of (by kernel_rfl))).trans s5_7
      have t6 := (hrest 6 (not_of (by kernel_rfl))).trans s6_7
      have hs : ax.tmps.size = 119 := hsz.trans z7
      have hi : ix < 8 := (Array.getElem?_eq_some_iff.1 ho).1
      clear hrest hsz hund
      obtain rfl | rfl | rfl | rfl | rfl | rfl | rfl | rfl : ix = 0 ∨ ix = 1 ∨ ix = 2 ∨ ix = 3 ∨ ix = 4 ∨ ix = 5 ∨ ix = 6 ∨ ix = 7 := by omega
      all_goals obtain rfl := Option.some.inj (show some _ = some ox from ho)
      ·
       exact wpOp_val (v := .pointer (some ⟨g1, 1, none⟩)) (w' := wx) rfl rfl (by simp [execOp, Act.eval, t4, go_sem]) ⟨_, rfl, tab_put rfl hs rfl rfl, hS.same 0 rfl⟩
      ·
       have s41 : ax.tmps.getD 41 undef = .pointer (some ⟨g1, 1, none⟩) := (hdone 0 _ rfl rfl).2 _ rfl
       have hr := hS.rowNi 0 rfl
       have hc := exec_load1 (i := 1) hr (v := .int .u64 b) rfl
       exact wpOp_val (v := .int .u64 b) (w' := wx) rfl rfl (by simp [execOp, Act.eval, s41, hc, go_sem]) ⟨_, rfl, tab_put rfl hs rfl rfl, hS.same 1 rfl⟩
      ·
       exact wpOp_val (v := .pointer (some ⟨g2, 1, none⟩)) (w' := wx) rfl rfl (by simp [execOp, Act.eval, t5, go_sem]) ⟨_, rfl, tab_put rfl hs rfl rfl, hS.same 2 rfl⟩
      ·
       have s43 : ax.tmps.getD 43 undef = .pointer (some ⟨g2, 1, none⟩) := (hdone 0 _ rfl rfl).2 _ rfl
       have hr := hS.rowNi 1 rfl
       have hc := exec_load1 (i := 1) hr (v := .int .u64 q) rfl
       exact wpOp_val (v := .int .u64 q) (w' := wx) rfl rfl (by simp [execOp, Act.eval, s43, hc, go_sem]) ⟨_, rfl, tab_put rfl hs rfl rfl, hS.same 3 rfl⟩
      ·
       have s42 : ax.tmps.getD 42 undef = .int .u64 b := (hdone 0 _ rfl rfl).2 _ rfl
       have s44 : ax.tmps.getD 44 undef = .int .u64 q := (hdone 1 _ rfl rfl).2 _ rfl
       exact wpOp_val (v := .int .u64 (bits .or .u64 b q)) (w' := wx) rfl rfl (by (simp [execOp, Act.eval, s42, s44, go_sem]; try (simp only [IntKind.wrap_i64, wrap64]))) ⟨_, rfl, tab_put rfl hs rfl rfl, hS.same 4 rfl⟩
      ·
       have s45 : ax.tmps.getD 45 undef = .int .u64 (bits .or .u64 b q) := (hdone 0 _ rfl rfl).2 _ rfl
       refine wpOp_call (args := #[.int .u64 (bits .or .u64 b q)]) rfl rfl (exec_call rfl rfl rfl (args1 (show ax.eval (.tmp 45) = .int .u64 (bits .or .u64 b q) from s45)) Try.func130 (by decide +kernel) rfl) ?_
       · refine (ones_n (bits .or .u64 b q) wx HR.out.1 HR.out.2).mono ?_
         rintro e w' ⟨rfl, b9⟩
         exact ⟨_, rfl, _, rfl, tab_put rfl hs rfl rfl, hS.quiet 5 rfl b9⟩
      ·
       have s46 : ax.tmps.getD 46 undef = .int .u64 (onesI (Int.toNat (bits .or .u64 b q))) := (hdone 0 _ rfl rfl).2 _ rfl
       refine wpOp_call (args := #[.int .u64 (onesI (Int.toNat (bits .or .u64 b q)))]) rfl rfl (exec_call rfl rfl rfl (args1 (show ax.eval (.tmp 46) = .int .u64 (onesI (Int.toNat (bits .or .u64 b q))) from s46)) Try.func81 (by decide +kernel) rfl) ?_
       · refine (upTo_n (onesI (Int.toNat (bits .or .u64 b q))) wx).mono ?_
         rintro e w' ⟨rfl, b9⟩
         exact ⟨_, rfl, _, rfl, tab_put rfl hs rfl rfl, hS.quiet 6 rfl b9⟩
      ·
       have s47 : ax.tmps.getD 47 undef = .agg #[.int .u64 0, .int .u64 (onesI (Int.toNat (bits .or .u64 b q)))] := (hdone 0 _ rfl rfl).2 _ rfl
       have hr := hS.rowFi 2 rfl hfi
       exact wpOp_skp (w' := wx.setRow g3 #[.int .u64 0, .int .u64 (onesI (Int.toNat (bits .or .u64 b q)))]) rfl rfl (exec_storeR 95 _ _ rfl g3 #[.int .u64 0, .int .u64 (onesI (Int.toNat (bits .or .u64 b q)))] (show ax.eval (.tmp 6) = .pointer (some ⟨g3, 0, none⟩) from t6) (show ax.eval (.tmp 47) = .agg #[.int .u64 0, .int .u64 (onesI (Int.toNat (bits .or .u64 b q)))] from s47) hr (by kernel_rfl) rfl (by simp [Value.oneCell'])) ⟨undef, rfl, trivial, hS.storeBi 7 2 rfl q_g3 rfl ⟨(show g1 ≠ g3 by omega), (show g2 ≠ g3 by omega), trivial⟩ (stored_setRow wx g3 _ _ _ hr)⟩
    intro a8 w8 fl d8 z8 rest8 R8 hfl hS
    obtain ⟨B8, n8, hBs, hAs, hPs⟩ := hS.finish hfl rfl
    replace d8 := d8.trans d7
    replace z8 := z8.trans z7
    obtain ⟨⟨-, b_g1_8⟩, ⟨-, b_g2_8⟩, ⟨-, b_g3_8⟩, -⟩ := hBs
    have s6_8 := (rest8 6 (not_of (by kernel_rfl))).trans s6_7
    clear R8 rest8 hS hfl hPs hAs
    clear s4_7 s5_7 s6_7 s7_7 s8_7 s16_7 s39_7 b_g1_7 b_g2_7 b_g3_7 d7 z7
    refine wp_ret ?_
    try simp only [Exit.inBlock, Exit.then]
    refine bodyPost_ret (res_c (fn := Try.f92) rfl s6_8 (load_row 95 b_g3_8 Try.underlying95 rfl (by kernel_rfl))) d8 ?_
    have no5 := nb Ffk2.out
    have no4 := nb Ffk3.out
    have ho : op = 10 := yb Ffk4.out
    have HE : restU op ⟨⟨a, b⟩, ⟨c, d⟩⟩ ⟨⟨p, q⟩, ⟨r, t⟩⟩ = ⟨0, onesI (Int.toNat (bits .or .u64 b q))⟩ := by
      unfold restU
      rw [if_neg no5, if_neg no4]
      rw [if_pos ho]
      rw [← HR2.out]
      try rfl
    have HE2 : (.agg #[.int .u64 0, .int .u64 (onesI (Int.toNat (bits .or .u64 b q)))] : Value) = .agg #[.int .u64 (restU op ⟨⟨a, b⟩, ⟨c, d⟩⟩ ⟨⟨p, q⟩, ⟨r, t⟩⟩).lo, .int .u64 (restU op ⟨⟨a, b⟩, ⟨c, d⟩⟩ ⟨⟨p, q⟩, ⟨r, t⟩⟩).hi] := by rw [HE]
    exact ⟨retV HE2, B8⟩
   have Ffk4 := Lib.hid fk4; clear fk4
   refine wp_regx (SX W w6.heap.size [⟨g1, 60, (cR a b c d), none, #[]⟩, ⟨g2, 60, (cR p q r t), none, #[]⟩, ⟨g3, 95, (cU 0 0), none, #[]⟩] []) (TabX [fun vx => vx = .bool false, fun vx => vx = .bool false]) (by kernel_rfl) (back_of (by kernel_rfl)) (dst_of (by kernel_rfl)) (in_ofz (by kernel_rfl) z6) (fun fl w1 hfl hw => SX.start' hw B6 hfl rfl ⟨b_g1_6, b_g2_6, b_g3_6, trivial⟩) ?h13 ?_
   case h13 =>
     intro ix ox ax wx fl ho hS hfi clo hsz hrest hdone hund
     have t16 := (hrest 16 (not_of (by kernel_rfl))).trans s16_6
     have hs : ax.tmps.size = 119 := hsz.trans z6
     have hi : ix < 2 := (Array.getElem?_eq_some_iff.1 ho).1
     clear hrest hsz hund
     obtain rfl | rfl : ix = 0 ∨ ix = 1 := by omega
     all_goals obtain rfl := Option.some.inj (show some _ = some ox from ho)
     ·
      exact wpOp_val (v := .bool (op == 10)) (w' := wx) rfl rfl (by (simp [execOp, Act.eval, t16, go_sem]; try (simp only [IntKind.wrap_i64, wrap64]))) ⟨_, rfl, tab_put rfl hs rfl (congrArg Value.bool Ffk4.out), hS.same 0 rfl⟩
     ·
      have s40 : ax.tmps.getD 40 undef = .bool false := (hdone 0 _ rfl rfl).2 _ rfl
      exact wpOp_val (v := .bool false) (w' := wx) rfl rfl (by simp [execOp, Act.eval, s40]) ⟨_, rfl, tab_put rfl hs rfl rfl, hS.same 1 rfl⟩
   intro a7 w7 fl d7 z7 rest7 R7 hfl hS
   obtain ⟨B7, n7, hBs, hAs, hPs⟩ := hS.finish hfl rfl
   replace d7 := d7.trans d6
   replace z7 := z7.trans z6
   obtain ⟨⟨-, b_g1_7⟩, ⟨-, b_g2_7⟩, ⟨-, b_g3_7⟩, -⟩ := hBs
   have s4_7 := (rest7 4 (not_of (by kernel_rfl))).trans s4_6
   have s5_7 := (rest7 5 (not_of (by kernel_rfl))).trans s5_6
   have s6_7 := (rest7 6 (not_of (by kernel_rfl))).trans s6_6
   have s7_7 := (rest7 7 (not_of (by kernel_rfl))).trans s7_6
   have s8_7 := (rest7 8 (not_of (by kernel_rfl))).trans s8_6
   have s16_7 := (rest7 16 (not_of (by kernel_rfl))).trans s16_6
   have s39_7 : a7.tmps.getD 39 undef = .bool false := R7 1 _ rfl
   clear R7 rest7 hS hfl hPs hAs
   clear s4_6 s5_6 s6_6 s7_6 s8_6 s16_6 s25_6 b_g1_6 b_g2_6 b_g3_6 d6 z6
   refine wp_cond_false (show a7.tmps.getD 39 undef = .bool false from s39_7) ?_
   refine wp_seq ?_
   cases fk5 : op == 3
   case true =>
    have Ffk5 := Lib.hid fk5; clear fk5
    refine wp_regx (SX W w7.heap.size [⟨g1, 60, (cR a b c d), none, #[]⟩, ⟨g2, 60, (cR p q r t), none, #[]⟩, ⟨g3, 95, (cU 0 0), none, #[]⟩] []) (TabX [fun vx => vx = .bool true, fun vx => vx = .bool true]) (by kernel_rfl) (back_of (by kernel_rfl)) (dst_of (by kernel_rfl)) (in_ofz (by kernel_rfl) z7) (fun fl w1 hfl hw => SX.start' hw B7 hfl rfl ⟨b_g1_7, b_g2_7, b_g3_7, trivial⟩) ?h14 ?_
    case h14 =>
      intro ix ox ax wx fl ho hS hfi clo hsz hrest hdone hund
      have t16 := (hrest 16 (not_of (by kernel_rfl))).trans s16_7
      have hs : ax.tmps.size = 119 := hsz.trans z7
      have hi : ix < 2 := (Array.getElem?_eq_some_iff.1 ho).1
      clear hrest hsz hund
      obtain rfl | rfl : ix = 0 ∨ ix = 1 := by omega
      all_goals obtain rfl := Option.some.inj (show some _ = some ox from ho)
      ·
       exact wpOp_val (v := .bool (op == 3)) (w' := wx) rfl rfl (by (simp [execOp, Act.eval, t16, go_sem]; try (simp only [IntKind.wrap_i64, wrap64]))) ⟨_, rfl, tab_put rfl hs rfl (congrArg Value.bool Ffk5.out), hS.same 0 rfl⟩
      ·
       have s49 : ax.tmps.getD 49 undef = .bool true := (hdone 0 _ rfl rfl).2 _ rfl
       exact wpOp_val (v := .bool true) (w' := wx) rfl rfl (by simp [execOp, Act.eval, s49]) ⟨_, rfl, tab_put rfl hs rfl rfl, hS.same 1 rfl⟩
    intro a8 w8 fl d8 z8 rest8 R8 hfl hS
    obtain ⟨B8, n8, hBs, hAs, hPs⟩ := hS.finish hfl rfl
    replace d8 := d8.trans d7
    replace z8 := z8.trans z7
    obtain ⟨⟨-, b_g1_8⟩, ⟨-, b_g2_8⟩, ⟨-, b_g3_8⟩, -⟩ := hBs
    have s4_8 := (rest8 4 (not_of (by kernel_rfl))).trans s4_7
    have s5_8 := (rest8 5 (not_of (by kernel_rfl))).trans s5_7
    have s6_8 := (rest8 6 (not_of (by kernel_rfl))).trans s6_7
    have s7_8 := (rest8 7 (not_of (by kernel_rfl))).trans s7_7
    have s8_8 := (rest8 8 (not_of (by kernel_rfl))).trans s8_7
    have s16_8 := (rest8 16 (not_of (by kernel_rfl))).trans s16_7
    have s48_8 : a8.tmps.getD 48 undef = .bool true := R8 1 _ rfl
    clear R8 rest8 hS hfl hPs hAs
    clear s4_7 s5_7 s6_7 s7_7 s8_7 s16_7 s39_7 b_g1_7 b_g2_7 b_g3_7 d7 z7
    refine wp_cond_true (show a8.tmps.getD 48 undef = .bool true from s48_8) ?_
    refine wp_seq ?_
    refine wp_seq ?_
    cases fk6 : p == 0
    case false =>
     have Ffk6 := Lib.hid fk6; clear fk6
     refine wp_regx (SX W w8.heap.size [⟨g1, 60, (cR a b c d), none, #[]⟩, ⟨g2, 60, (cR p q r t), none, #[]⟩, ⟨g3, 95, (cU 0 0), none, #[]⟩] []) (TabX [fun vx => vx = .pointer (some ⟨g2, 0, none⟩), fun vx => vx = .int .u64 p, fun vx => vx = .bool false]) (by kernel_rfl) (back_of (by kernel_rfl)) (dst_of (by kernel_rfl)) (in_ofz (by kernel_rfl) z8) (fun fl w1 hfl hw => SX.start' hw B8 hfl rfl ⟨b_g1_8, b_g2_8, b_g3_8, trivial⟩) ?h15 ?_
     case h15 =>
       intro ix ox ax wx fl ho hS hfi clo hsz hrest hdone hund
       have t5 := (hrest 5 (not_of (by kernel_rfl))).trans s5_8
       have hs : ax.tmps.size = 119 := hsz.trans z8
       have hi : ix < 3 := (Array.getElem?_eq_some_iff.1 ho).1
       clear hrest hsz hund
       obtain rfl | rfl | rfl : ix = 0 ∨ ix = 1 ∨ ix = 2 := by omega
       all_goals obtain rfl := Option.some.inj (show some _ = some ox from ho)
       ·
        exact wpOp_val (v := .pointer (some ⟨g2, 0, none⟩)) (w' := wx) rfl rfl (by simp [execOp, Act.eval, t5, go_sem]) ⟨_, rfl, tab_put rfl hs rfl rfl, hS.same 0 rfl⟩
       ·
        have s50 : ax.tmps.getD 50 undef = .pointer (some ⟨g2, 0, none⟩) := (hdone 0 _ rfl rfl).2 _ rfl
        have hr := hS.rowNi 1 rfl
        have hc := exec_load1 (i := 0) hr (v := .int .u64 p) rfl
        exact wpOp_val (v := .int .u64 p) (w' := wx) rfl rfl (by simp [execOp, Act.eval, s50, hc, go_sem]) ⟨_, rfl, tab_put rfl hs rfl rfl, hS.same 1 rfl⟩
       ·
        have s51 : ax.tmps.getD 51 undef = .int .u64 p := (hdone 0 _ rfl rfl).2 _ rfl
        exact wpOp_val (v := .bool (p == 0)) (w' := wx) rfl rfl (by (simp [execOp, Act.eval, s51, go_sem]; try (simp only [IntKind.wrap_i64, wrap64]))) ⟨_, rfl, tab_put rfl hs rfl (congrArg Value.bool Ffk6.out), hS.same 2 rfl⟩
     intro a9 w9 fl d9 z9 rest9 R9 hfl hS
     obtain ⟨B9, n9, hBs, hAs, hPs⟩ := hS.finish hfl rfl
     replace d9 := d9.trans d8
     replace z9 := z9.trans z8
     obtain ⟨⟨-, b_g1_9⟩, ⟨-, b_g2_9⟩, ⟨-, b_g3_9⟩, -⟩ := hBs
     have s4_9 := (rest9 4 (not_of (by kernel_rfl))).trans s4_8
     have s5_9 := (rest9 5 (not_of (by kernel_rfl))).trans s5_8
     have s6_9 := (rest9 6 (not_of (by kernel_rfl))).trans s6_8
     have s52_9 : a9.tmps.getD 52 undef = .bool false := R9 2 _ rfl
     clear R9 rest9 hS hfl hPs hAs
     clear s4_8 s5_8 s6_8 s7_8 s8_8 s16_8 s48_8 b_g1_8 b_g2_8 b_g3_8 d8 z8
     refine wp_cond_false (show a9.tmps.getD 52 undef = .bool false from s52_9) ?_
     refine wp_skip ?_
     refine wp_seq ?_
     refine wp_regx (SX W w9.heap.size [⟨g1, 60, (cR a b c d), none, #[]⟩, ⟨g2, 60, (cR p q r t), none, #[]⟩, ⟨g3, 95, (cU 0 0), some 11, (cU (a / q) (b / p))⟩] []) (TabX [fun vx => vx = .pointer (some ⟨g1, 0, none⟩), fun vx => vx = .int .u64 a, fun vx => vx = .pointer (some ⟨g2, 1, none⟩), fun vx => vx = .int .u64 q, fun vx => vx = .int .u64 (a / q), fun vx => vx = .pointer (some ⟨g1, 1, none⟩), fun vx => vx = .int .u64 b, fun vx => vx = .pointer (some ⟨g2, 0, none⟩), fun vx => vx = .int .u64 p, fun vx => vx = .int .u64 (b / p), fun vx => vx = .agg #[.int .u64 (a / q), .int .u64 (b / p)], fun _ => True]) (by kernel_rfl) (back_of (by kernel_rfl)) (dst_of (by kernel_rfl)) (in_ofz (by kernel_rfl) z9) (fun fl w1 hfl hw => SX.start' hw B9 hfl rfl ⟨b_g1_9, b_g2_9, b_g3_9, trivial⟩) ?h16 ?_
     case h16 =>
       intro ix ox ax wx fl ho hS hfi clo hsz hrest hdone hund
       have t4 := (hrest 4 (not_of (by kernel_rfl))).trans s4_9
       have t5 := (hrest 5 (not_of (by kernel_rfl))).trans s5_9
       have t6 := (hrest 6 (not_of (by kernel_rfl))).trans s6_9
       have hs : ax.tmps.size = 119 := hsz.trans z9
       have hi : ix < 12 := (Array.getElem?_eq_some_iff.1 ho).1
       clear hrest hsz hund
       obtain rfl | rfl | rfl | rfl | rfl | rfl | rfl | rfl | rfl | rfl | rfl | rfl : ix = 0 ∨ ix = 1 ∨ ix = 2 ∨ ix = 3 ∨ ix = 4 ∨ ix = 5 ∨ ix = 6 ∨ ix = 7 ∨ ix = 8 ∨ ix = 9 ∨ ix = 10 ∨ ix = 11 := by omega
       all_goals obtain rfl := Option.some.inj (show some _ = some ox from ho)
       ·
        exact wpOp_val (v := .pointer (some ⟨g1, 0, none⟩)) (w' := wx) rfl rfl (by simp [execOp, Act.eval, t4, go_sem]) ⟨_, rfl, tab_put rfl hs rfl rfl, hS.same 0 rfl⟩
       ·
        have s56 : ax.tmps.getD 56 undef = .pointer (some ⟨g1, 0, none⟩) := (hdone 0 _ rfl rfl).2 _ rfl
        have hr := hS.rowNi 0 rfl
        have hc := exec_load1 (i := 0) hr (v := .int .u64 a) rfl
        exact wpOp_val (v := .int .u64 a) (w' := wx) rfl rfl (by simp [execOp, Act.eval, s56, hc, go_sem]) ⟨_, rfl, tab_put rfl hs rfl rfl, hS.same 1 rfl⟩
       ·
        exact wpOp_val (v := .pointer (some ⟨g2, 1, none⟩)) (w' := wx) rfl rfl (by simp [execOp, Act.eval, t5, go_sem]) ⟨_, rfl, tab_put rfl hs rfl rfl, hS.same 2 rfl⟩
       ·
        have s58 : ax.tmps.getD 58 undef = .pointer (some ⟨g2, 1, none⟩) := (hdone 0 _ rfl rfl).2 _ rfl
        have hr := hS.rowNi 1 rfl
        have hc := exec_load1 (i := 1) hr (v := .int .u64 q) rfl
        exact wpOp_val (v := .int .u64 q) (w' := wx) rfl rfl (by simp [execOp, Act.eval, s58, hc, go_sem]) ⟨_, rfl, tab_put rfl hs rfl rfl, hS.same 3 rfl⟩
       ·
        have s57 : ax.tmps.getD 57 undef = .int .u64 a := (hdone 0 _ rfl rfl).2 _ rfl
        have s59 : ax.tmps.getD 59 undef = .int .u64 q := (hdone 1 _ rfl rfl).2 _ rfl
        exact wpOp_val (v := .int .u64 (a / q)) (w' := wx) rfl rfl (exec_quo rfl (show ax.eval (.tmp 57) = .int .u64 a from s57) (show ax.eval (.tmp 59) = .int .u64 q from s59) HO.out.1.1.1 (HD.out Ffk6.out).1 HO.out.1.1.2) ⟨_, rfl, tab_put rfl hs rfl rfl, hS.same 4 rfl⟩
       ·
        exact wpOp_val (v := .pointer (some ⟨g1, 1, none⟩)) (w' := wx) rfl rfl (by simp [execOp, Act.eval, t4, go_sem]) ⟨_, rfl, tab_put rfl hs rfl rfl, hS.same 5 rfl⟩
       ·
        have s61 : ax.tmps.getD 61 undef = .pointer (some ⟨g1, 1, none⟩) := (hdone 0 _ rfl rfl).2 _ rfl
        have hr := hS.rowNi 0 rfl
        have hc := exec_load1 (i := 1) hr (v := .int .u64 b) rfl
        exact wpOp_val (v := .int .u64 b) (w' := wx) rfl rfl (by simp [execOp, Act.eval, s61, hc, go_sem]) ⟨_, rfl, tab_put rfl hs rfl rfl, hS.same 6 rfl⟩
       ·
        exact wpOp_val (v := .pointer (some ⟨g2, 0, none⟩)) (w' := wx) rfl rfl (by simp [execOp, Act.eval, t5, go_sem]) ⟨_, rfl, tab_put rfl hs rfl rfl, hS.same 7 rfl⟩
       ·
        have s63 : ax.tmps.getD 63 undef = .pointer (some ⟨g2, 0, none⟩) := (hdone 0 _ rfl rfl).2 _ rfl
        have hr := hS.rowNi 1 rfl
        have hc := exec_load1 (i := 0) hr (v := .int .u64 p) rfl
        exact wpOp_val (v := .int .u64 p) (w' := wx) rfl rfl (by simp [execOp, Act.eval, s63, hc, go_sem]) ⟨_, rfl, tab_put rfl hs rfl rfl, hS.same 8 rfl⟩
       ·
        have s62 : ax.tmps.getD 62 undef = .int .u64 b := (hdone 0 _ rfl rfl).2 _ rfl
        have s64 : ax.tmps.getD 64 undef = .int .u64 p := (hdone 1 _ rfl rfl).2 _ rfl
        exact wpOp_val (v := .int .u64 (b / p)) (w' := wx) rfl rfl (exec_quo rfl (show ax.eval (.tmp 62) = .int .u64 b from s62) (show ax.eval (.tmp 64) = .int .u64 p from s64) HO.out.1.2.1 (HD.out Ffk6.out).2 HO.out.1.2.2) ⟨_, rfl, tab_put rfl hs rfl rfl, hS.same 9 rfl⟩
       ·
        have s60 : ax.tmps.getD 60 undef = .int .u64 (a / q) := (hdone 0 _ rfl rfl).2 _ rfl
        have s65 : ax.tmps.getD 65 undef = .int .u64 (b / p) := (hdone 1 _ rfl rfl).2 _ rfl
        exact wpOp_val (v := .agg #[.int .u64 (a / q), .int .u64 (b / p)]) (w' := wx) rfl rfl (exec_build rfl (parts2 (show ax.eval (.tmp 60) = .int .u64 (a / q) from s60) (show ax.eval (.tmp 65) = .int .u64 (b / p) from s65)) (by kernel_rfl)) ⟨_, rfl, tab_put rfl hs rfl rfl, hS.same 10 rfl⟩
       ·
        have s66 : ax.tmps.getD 66 undef = .agg #[.int .u64 (a / q), .int .u64 (b / p)] := (hdone 0 _ rfl rfl).2 _ rfl
        have hr := hS.rowFi 2 rfl hfi
        exact wpOp_skp (w' := wx.setRow g3 #[.int .u64 (a / q), .int .u64 (b / p)]) rfl rfl (exec_storeR 95 _ _ rfl g3 #[.int .u64 (a / q), .int .u64 (b / p)] (show ax.eval (.tmp 6) = .pointer (some ⟨g3, 0, none⟩) from t6) (show ax.eval (.tmp 66) = .agg #[.int .u64 (a / q), .int .u64 (b / p)] from s66) hr (by kernel_rfl) rfl (by simp [Value.oneCell'])) ⟨undef, rfl, trivial, hS.storeBi 11 2 rfl q_g3 rfl ⟨(show g1 ≠ g3 by omega), (show g2 ≠ g3 by omega), trivial⟩ (stored_setRow wx g3 _ _ _ hr)⟩
     intro a10 w10 fl d10 z10 rest10 R10 hfl hS
     obtain ⟨B10, n10, hBs, hAs, hPs⟩ := hS.finish hfl rfl
     replace d10 := d10.trans d9
     replace z10 := z10.trans z9
     obtain ⟨⟨-, b_g1_10⟩, ⟨-, b_g2_10⟩, ⟨-, b_g3_10⟩, -⟩ := hBs
     have s6_10 := (rest10 6 (not_of (by kernel_rfl))).trans s6_9
     clear R10 rest10 hS hfl hPs hAs
     clear s4_9 s5_9 s6_9 s52_9 b_g1_9 b_g2_9 b_g3_9 d9 z9
     refine wp_ret ?_
     try simp only [Exit.inBlock, Exit.then]
     refine bodyPost_ret (res_c (fn := Try.f92) rfl s6_10 (load_row 95 b_g3_10 Try.underlying95 rfl (by kernel_rfl))) d10 ?_
     have no5 := nb Ffk2.out
     have no4 := nb Ffk3.out
     have no10 := nb Ffk4.out
     have ho : op = 3 := yb Ffk5.out
     have HE : restU op ⟨⟨a, b⟩, ⟨c, d⟩⟩ ⟨⟨p, q⟩, ⟨r, t⟩⟩ = ⟨a / q, b / p⟩ := by
       unfold restU
       rw [if_neg no5, if_neg no4, if_neg no10]
       rw [if_pos ho]
       rw [if_neg (by have := Ffk6.out; simpa using this)]
       try rfl
     have HE2 : (.agg #[.int .u64 (a / q), .int .u64 (b / p)] : Value) = .agg #[.int .u64 (restU op ⟨⟨a, b⟩, ⟨c, d⟩⟩ ⟨⟨p, q⟩, ⟨r, t⟩⟩).lo, .int .u64 (restU op ⟨⟨a, b⟩, ⟨c, d⟩⟩ ⟨⟨p, q⟩, ⟨r, t⟩⟩).hi] := by rw [HE]
     exact ⟨retV HE2, B10⟩
    have Ffk6 := Lib.hid fk6; clear fk6
    refine wp_regx (SX W w8.heap.size [⟨g1, 60, (cR a b c d), none, #[]⟩, ⟨g2, 60, (cR p q r t), none, #[]⟩, ⟨g3, 95, (cU 0 0), none, #[]⟩] []) (TabX [fun vx => vx = .pointer (some ⟨g2, 0, none⟩), fun vx => vx = .int .u64 p, fun vx => vx = .bool true]) (by kernel_rfl) (back_of (by kernel_rfl)) (dst_of (by kernel_rfl)) (in_ofz (by kernel_rfl) z8) (fun fl w1 hfl hw => SX.start' hw B8 hfl rfl ⟨b_g1_8, b_g2_8, b_g3_8, trivial⟩) ?h17 ?_
    case h17 =>
      intro ix ox ax wx fl ho hS hfi clo hsz hrest hdone hund
      have t5 := (hrest 5 (not_of (by kernel_rfl))).trans s5_8
      have hs : ax.tmps.size = 119 := hsz.trans z8
      have hi : ix < 3 := (Array.getElem?_eq_some_iff.1 ho).1
      clear hrest hsz hund
      obtain rfl | rfl | rfl : ix = 0 ∨ ix = 1 ∨ ix = 2 := by omega
      all_goals obtain rfl := Option.some.inj (show some _ = some ox from ho)
      ·
       exact wpOp_val (v := .pointer (some ⟨g2, 0, none⟩)) (w' := wx) rfl rfl (by simp [execOp, Act.eval, t5, go_sem]) ⟨_, rfl, tab_put rfl hs rfl rfl, hS.same 0 rfl⟩
      ·
       have s50 : ax.tmps.getD 50 undef = .pointer (some ⟨g2, 0, none⟩) := (hdone 0 _ rfl rfl).2 _ rfl
       have hr := hS.rowNi 1 rfl
       have hc := exec_load1 (i := 0) hr (v := .int .u64 p) rfl
       exact wpOp_val (v := .int .u64 p) (w' := wx) rfl rfl (by simp [execOp, Act.eval, s50, hc, go_sem]) ⟨_, rfl, tab_put rfl hs rfl rfl, hS.same 1 rfl⟩
      ·
       have s51 : ax.tmps.getD 51 undef = .int .u64 p := (hdone 0 _ rfl rfl).2 _ rfl
       exact wpOp_val (v := .bool (p == 0)) (w' := wx) rfl rfl (by (simp [execOp, Act.eval, s51, go_sem]; try (simp only [IntKind.wrap_i64, wrap64]))) ⟨_, rfl, tab_put rfl hs rfl (congrArg Value.bool Ffk6.out), hS.same 2 rfl⟩
    intro a9 w9 fl d9 z9 rest9 R9 hfl hS
    obtain ⟨B9, n9, hBs, hAs, hPs⟩ := hS.finish hfl rfl
    replace d9 := d9.trans d8
    replace z9 := z9.trans z8
    obtain ⟨⟨-, b_g1_9⟩, ⟨-, b_g2_9⟩, ⟨-, b_g3_9⟩, -⟩ := hBs
    have s4_9 := (rest9 4 (not_of (by kernel_rfl))).trans s4_8
    have s5_9 := (rest9 5 (not_of (by kernel_rfl))).trans s5_8
    have s6_9 := (rest9 6 (not_of (by kernel_rfl))).trans s6_8
    have s52_9 : a9.tmps.getD 52 undef = .bool true := R9 2 _ rfl
    clear R9 rest9 hS hfl hPs hAs
    clear s4_8 s5_8 s6_8 s7_8 s8_8 s16_8 s48_8 b_g1_8 b_g2_8 b_g3_8 d8 z8
    refine wp_cond_true (show a9.tmps.getD 52 undef = .bool true from s52_9) ?_
    refine wp_seq ?_
    refine wp_regx (SX W w9.heap.size [⟨g1, 60, (cR a b c d), none, #[]⟩, ⟨g2, 60, (cR p q r t), none, #[]⟩, ⟨g3, 95, (cU 0 0), some 3, (cU 0 b)⟩] []) (TabX [fun vx => vx = .pointer (some ⟨g1, 1, none⟩), fun vx => vx = .int .u64 b, fun vx => vx = .agg #[.int .u64 0, .int .u64 b], fun _ => True]) (by kernel_rfl) (back_of (by kernel_rfl)) (dst_of (by kernel_rfl)) (in_ofz (by kernel_rfl) z9) (fun fl w1 hfl hw => SX.start' hw B9 hfl rfl ⟨b_g1_9, b_g2_9, b_g3_9, trivial⟩) ?h18 ?_
    case h18 =>
      intro ix ox ax wx fl ho hS hfi clo hsz hrest hdone hund
      have t4 := (hrest 4 (not_of (by kernel_rfl))).trans s4_9
      have t6 := (hrest 6 (not_of (by kernel_rfl))).trans s6_9
      have hs : ax.tmps.size = 119 := hsz.trans z9
      have hi : ix < 4 := (Array.getElem?_eq_some_iff.1 ho).1
      clear hrest hsz hund
      obtain rfl | rfl | rfl | rfl : ix = 0 ∨ ix = 1 ∨ ix = 2 ∨ ix = 3 := by omega
      all_goals obtain rfl := Option.some.inj (show some _ = some ox from ho)
      ·
       exact wpOp_val (v := .pointer (some ⟨g1, 1, none⟩)) (w' := wx) rfl rfl (by simp [execOp, Act.eval, t4, go_sem]) ⟨_, rfl, tab_put rfl hs rfl rfl, hS.same 0 rfl⟩
      ·
       have s53 : ax.tmps.getD 53 undef = .pointer (some ⟨g1, 1, none⟩) := (hdone 0 _ rfl rfl).2 _ rfl
       have hr := hS.rowNi 0 rfl
       have hc := exec_load1 (i := 1) hr (v := .int .u64 b) rfl
       exact wpOp_val (v := .int .u64 b) (w' := wx) rfl rfl (by simp [execOp, Act.eval, s53, hc, go_sem]) ⟨_, rfl, tab_put rfl hs rfl rfl, hS.same 1 rfl⟩
      ·
       have s54 : ax.tmps.getD 54 undef = .int .u64 b := (hdone 0 _ rfl rfl).2 _ rfl
       refine wpOp_call (args := #[.int .u64 b]) rfl rfl (exec_call rfl rfl rfl (args1 (show ax.eval (.tmp 54) = .int .u64 b from s54)) Try.func81 (by decide +kernel) rfl) ?_
       · refine (upTo_n b wx).mono ?_
         rintro e w' ⟨rfl, b9⟩
         exact ⟨_, rfl, _, rfl, tab_put rfl hs rfl rfl, hS.quiet 2 rfl b9⟩
      ·
       have s55 : ax.tmps.getD 55 undef = .agg #[.int .u64 0, .int .u64 b] := (hdone 0 _ rfl rfl).2 _ rfl
       have hr := hS.rowFi 2 rfl hfi
       exact wpOp_skp (w' := wx.setRow g3 #[.int .u64 0, .int .u64 b]) rfl rfl (exec_storeR 95 _ _ rfl g3 #[.int .u64 0, .int .u64 b] (show ax.eval (.tmp 6) = .pointer (some ⟨g3, 0, none⟩) from t6) (show ax.eval (.tmp 55) = .agg #[.int .u64 0, .int .u64 b] from s55) hr (by kernel_rfl) rfl (by simp [Value.oneCell'])) ⟨undef, rfl, trivial, hS.storeBi 3 2 rfl q_g3 rfl ⟨(show g1 ≠ g3 by omega), (show g2 ≠ g3 by omega), trivial⟩ (stored_setRow wx g3 _ _ _ hr)⟩
    intro a10 w10 fl d10 z10 rest10 R10 hfl hS
    obtain ⟨B10, n10, hBs, hAs, hPs⟩ := hS.finish hfl rfl
    replace d10 := d10.trans d9
    replace z10 := z10.trans z9
    obtain ⟨⟨-, b_g1_10⟩, ⟨-, b_g2_10⟩, ⟨-, b_g3_10⟩, -⟩ := hBs
    have s4_10 := (rest10 4 (not_of (by kernel_rfl))).trans s4_9
    have s5_10 := (rest10 5 (not_of (by kernel_rfl))).trans s5_9
    have s6_10 := (rest10 6 (not_of (by kernel_rfl))).trans s6_9
    clear R10 rest10 hS hfl hPs hAs
    clear s4_9 s5_9 s6_9 s52_9 b_g1_9 b_g2_9 b_g3_9 d9 z9
    refine wp_ret ?_
    try simp only [Exit.inBlock, Exit.then]
    refine bodyPost_ret (res_c (fn := Try.f92) rfl s6_10 (load_row 95 b_g3_10 Try.underlying95 rfl (by kernel_rfl))) d10 ?_
    have no5 := nb Ffk2.out
    have no4 := nb Ffk3.out
    have no10 := nb Ffk4.out
    have ho : op = 3 := yb Ffk5.out
    have HE : restU op ⟨⟨a, b⟩, ⟨c, d⟩⟩ ⟨⟨p, q⟩, ⟨r, t⟩⟩ = ⟨0, b⟩ := by
      unfold restU
      rw [if_neg no5, if_neg no4, if_neg no10]
      rw [if_pos ho]
      rw [if_pos (by have := Ffk6.out; simpa using this)]
      try rfl
    have HE2 : (.agg #[.int .u64 0, .int .u64 b] : Value) = .agg #[.int .u64 (restU op ⟨⟨a, b⟩, ⟨c, d⟩⟩ ⟨⟨p, q⟩, ⟨r, t⟩⟩).lo, .int .u64 (restU op ⟨⟨a, b⟩, ⟨c, d⟩⟩ ⟨⟨p, q⟩, ⟨r, t⟩⟩).hi] := by rw [HE]
    exact ⟨retV HE2, B10⟩
   have Ffk5 := Lib.hid fk5; clear fk5
   refine wp_regx (SX W w7.heap.size [⟨g1, 60, (cR a b c d), none, #[]⟩, ⟨g2, 60, (cR p q r t), none, #[]⟩, ⟨g3, 95, (cU 0 0), none, #[]⟩] []) (TabX [fun vx => vx = .bool false, fun vx => vx = .bool false]) (by kernel_rfl) (back_of (by kernel_rfl)) (dst_of (by kernel_rfl)) (in_ofz (by kernel_rfl) z7) (fun fl w1 hfl hw => SX.start' hw B7 hfl rfl ⟨b_g1_7, b_g2_7, b_g3_7, trivial⟩) ?h19 ?_
   case h19 =>
     intro ix ox ax wx fl ho hS hfi clo hsz hrest hdone hund
     have t16 := (hrest 16 (not_of (by kernel_rfl))).trans s16_7
     have hs : ax.tmps.size = 119 := hsz.trans z7
     have hi : ix < 2 := (Array.getElem?_eq_some_iff.1 ho).1
     clear hrest hsz hund
     obtain rfl | rfl : ix = 0 ∨ ix = 1 := by omega
     all_goals obtain rfl := Option.some.inj (show some _ = some ox from ho)
     ·
      exact wpOp_val (v := .bool (op == 3)) (w' := wx) rfl rfl (by (simp [execOp, Act.eval, t16, go_sem]; try (simp only [IntKind.wrap_i64, wrap64]))) ⟨_, rfl, tab_put rfl hs rfl (congrArg Value.bool Ffk5.out), hS.same 0 rfl⟩
     ·
      have s49 : ax.tmps.getD 49 undef = .bool false := (hdone 0 _ rfl rfl).2 _ rfl
      exact wpOp_val (v := .bool false) (w' := wx) rfl rfl (by simp [execOp, Act.eval, s49]) ⟨_, rfl, tab_put rfl hs rfl rfl, hS.same 1 rfl⟩
   intro a8 w8 fl d8 z8 rest8 R8 hfl hS
   obtain ⟨B8, n8, hBs, hAs, hPs⟩ := hS.finish hfl rfl
   replace d8 := d8.trans d7
   replace z8 := z8.trans z7
   obtain ⟨⟨-, b_g1_8⟩, ⟨-, b_g2_8⟩, ⟨-, b_g3_8⟩, -⟩ := hBs
   have s4_8 := (rest8 4 (not_of (by kernel_rfl))).trans s4_7
   have s5_8 := (rest8 5 (not_of (by kernel_rfl))).trans s5_7
   have s6_8 := (rest8 6 (not_of (by kernel_rfl))).trans s6_7
   have s7_8 := (rest8 7 (not_of (by kernel_rfl))).trans s7_7
   have s8_8 := (rest8 8 (not_of (by kernel_rfl))).trans s8_7
   have s16_8 := (rest8 16 (not_of (by kernel_rfl))).trans s16_7
   have s48_8 : a8.tmps.getD 48 undef = .bool false := R8 1 _ rfl
   clear R8 rest8 hS hfl hPs hAs
   clear s4_7 s5_7 s6_7 s7_7 s8_7 s16_7 s39_7 b_g1_7 b_g2_7 b_g3_7 d7 z7
   refine wp_cond_false (show a8.tmps.getD 48 undef = .bool false from s48_8) ?_
   refine wp_seq ?_
   cases fk7 : op == 9
   case true =>
    have Ffk7 := Lib.hid fk7; clear fk7
    refine wp_regx (SX W w8.heap.size [⟨g1, 60, (cR a b c d), none, #[]⟩, ⟨g2, 60, (cR p q r t), none, #[]⟩, ⟨g3, 95, (cU 0 0), none, #[]⟩] []) (TabX [fun vx => vx = .bool true, fun vx => vx = .bool true]) (by kernel_rfl) (back_of (by kernel_rfl)) (dst_of (by kernel_rfl)) (in_ofz (by kernel_rfl) z8) (fun fl w1 hfl hw => SX.start' hw B8 hfl rfl ⟨b_g1_8, b_g2_8, b_g3_8, trivial⟩) ?h20 ?_
    case h20 =>
      intro ix ox ax wx fl ho hS hfi clo hsz hrest hdone hund
      have t16 := (hrest 16 (not_of (by kernel_rfl))).trans s16_8
      have hs : ax.tmps.size = 119 := hsz.trans z8
      have hi : ix < 2 := (Array.getElem?_eq_some_iff.1 ho).1
      clear hrest hsz hund
      obtain rfl | rfl : ix = 0 ∨ ix = 1 := by omega
      all_goals obtain rfl := Option.some.inj (show some _ = some ox from ho)
      ·
       exact wpOp_val (v := .bool (op == 9)) (w' := wx) rfl rfl (by (simp [execOp, Act.eval, t16, go_sem]; try (simp only [IntKind.wrap_i64, wrap64]))) ⟨_, rfl, tab_put rfl hs rfl (congrArg Value.bool Ffk7.out), hS.same 0 rfl⟩
      ·
       have s68 : ax.tmps.getD 68 undef = .bool true := (hdone 0 _ rfl rfl).2 _ rfl
       exact wpOp_val (v := .bool true) (w' := wx) rfl rfl (by simp [execOp, Act.eval, s68]) ⟨_, rfl, tab_put rfl hs rfl rfl, hS.same 1 rfl⟩
    intro a9 w9 fl d9 z9 rest9 R9 hfl hS
    obtain ⟨B9, n9, hBs, hAs, hPs⟩ := hS.finish hfl rfl
    replace d9 := d9.trans d8
    replace z9 := z9.trans z8
    obtain ⟨⟨-, b_g1_9⟩, ⟨-, b_g2_9⟩, ⟨-, b_g3_9⟩, -⟩ := hBs
    have s4_9 := (rest9 4 (not_of (by kernel_rfl))).trans s4_8
    have s5_9 := (rest9 5 (not_of (by kernel_rfl))).trans s5_8
    have s6_9 := (rest9 6 (not_of (by kernel_rfl))).trans s6_8
    have s7_9 := (rest9 7 (not_of (by kernel_rfl))).trans s7_8
    have s8_9 := (rest9 8 (not_of (by kernel_rfl))).trans s8_8
    have s16_9 := (rest9 16 (not_of (by kernel_rfl))).trans s16_8
    have s67_9 : a9.tmps.getD 67 undef = .bool true := R9 1 _ rfl
    clear R9 rest9 hS hfl hPs hAs
    clear s4_8 s5_8 s6_8 s7_8 s8_8 s16_8 s48_8 b_g1_8 b_g2_8 b_g3_8 d8 z8
    refine wp_cond_true (show a9.tmps.getD 67 undef = .bool true from s67_9) ?_
    refine wp_seq ?_
    refine wp_seq ?_
    cases fk8 : p == 0
    case false =>
     have Ffk8 := Lib.hid fk8; clear fk8
     refine wp_regx (SX W w9.heap.size [⟨g1, 60, (cR a b c d), none, #[]⟩, ⟨g2, 60, (cR p q r t), none, #[]⟩, ⟨g3, 95, (cU 0 0), none, #[]⟩] []) (TabX [fun vx => vx = .pointer (some ⟨g2, 0, none⟩), fun vx => vx = .int .u64 p, fun vx => vx = .bool false]) (by kernel_rfl) (back_of (by kernel_rfl)) (dst_of (by kernel_rfl)) (in_ofz (by kernel_rfl) z9) (fun fl w1 hfl hw => SX.start' hw B9 hfl rfl ⟨b_g1_9, b_g2_9, b_g3_9, trivial⟩) ?h21 ?_
     case h21 =>
       intro ix ox ax wx fl ho hS hfi clo hsz hrest hdone hund
       have t5 := (hrest 5 (not_of (by kernel_rfl))).trans s5_9
       have hs : ax.tmps.size = 119 := hsz.trans z9
       have hi : ix < 3 := (Array.getElem?_eq_some_iff.1 ho).1
       clear hrest hsz hund
       obtain rfl | rfl | rfl : ix = 0 ∨ ix = 1 ∨ ix = 2 := by omega
       all_goals obtain rfl := Option.some.inj (show some _ = some ox from ho)
       ·
        exact wpOp_val (v := .pointer (some ⟨g2, 0, none⟩)) (w' := wx) rfl rfl (by simp [execOp, Act.eval, t5, go_sem]) ⟨_, rfl, tab_put rfl hs rfl rfl, hS.same 0 rfl⟩
       ·
        have s69 : ax.tmps.getD 69 undef = .pointer (some ⟨g2, 0, none⟩) := (hdone 0 _ rfl rfl).2 _ rfl
        have hr := hS.rowNi 1 rfl
        have hc := exec_load1 (i := 0) hr (v := .int .u64 p) rfl
        exact wpOp_val (v := .int .u64 p) (w' := wx) rfl rfl (by simp [execOp, Act.eval, s69, hc, go_sem]) ⟨_, rfl, tab_put rfl hs rfl rfl, hS.same 1 rfl⟩
       ·
        have s70 : ax.tmps.getD 70 undef = .int .u64 p := (hdone 0 _ rfl rfl).2 _ rfl
        exact wpOp_val (v := .bool (p == 0)) (w' := wx) rfl rfl (by (simp [execOp, Act.eval, s70, go_sem]; try (simp only [IntKind.wrap_i64, wrap64]))) ⟨_, rfl, tab_put rfl hs rfl (congrArg Value.bool Ffk8.out), hS.same 2 rfl⟩
     intro a10 w10 fl d10 z10 rest10 R10 hfl hS
     obtain ⟨B10, n10, hBs, hAs, hPs⟩ := hS.finish hfl rfl
     replace d10 := d10.trans d9
     replace z10 := z10.trans z9
     obtain ⟨⟨-, b_g1_10⟩, ⟨-, b_g2_10⟩, ⟨-, b_g3_10⟩, -⟩ := hBs
     have s4_10 := (rest10 4 (not_of (by kernel_rfl))).trans s4_9
     have s5_10 := (rest10 5 (not_of (by kernel_rfl))).trans s5_9
     have s6_10 := (rest10 6 (not_of (by kernel_rfl))).trans s6_9
     have s71_10 : a10.tmps.getD 71 undef = .bool false := R10 2 _ rfl
     clear R10 rest10 hS hfl hPs hAs
     clear s4_9 s5_9 s6_9 s7_9 s8_9 s16_9 s67_9 b_g1_9 b_g2_9 b_g3_9 d9 z9
     refine wp_cond_false (show a10.tmps.getD 71 undef = .bool false from s71_10) ?_
     refine wp_skip ?_
     refine wp_seq ?_
     refine wp_regx (SX W w10.heap.size [⟨g1, 60, (cR a b c d), none, #[]⟩, ⟨g2, 60, (cR p q r t), none, #[]⟩, ⟨g3, 95, (cU 0 0), some 7, (cU 0 (min b (IntKind.u64.wrap (q - 1))))⟩] []) (TabX [fun vx => vx = .pointer (some ⟨g1, 1, none⟩), fun vx => vx = .int .u64 b, fun vx => vx = .pointer (some ⟨g2, 1, none⟩), fun vx => vx = .int .u64 q, fun vx => vx = .int .u64 (IntKind.u64.wrap (q - 1)), fun vx => vx = .int .u64 (min b (IntKind.u64.wrap (q - 1))), fun vx => vx = .agg #[.int .u64 0, .int .u64 (min b (IntKind.u64.wrap (q - 1)))], fun _ => True]) (by kernel_rfl) (back_of (by kernel_rfl)) (dst_of (by kernel_rfl)) (in_ofz (by kernel_rfl) z10) (fun fl w1 hfl hw => SX.start' hw B10 hfl rfl ⟨b_g1_10, b_g2_10, b_g3_10, trivial⟩) ?h22 ?_
     case h22 =>
       intro ix ox ax wx fl ho hS hfi clo hsz hrest hdone hund
       have t4 := (hrest 4 (not_of (by kernel_rfl))).trans s4_10
       have t5 := (hrest 5 (not_of (by kernel_rfl))).trans s5_10
       have t6 := (hrest 6 (not_of (by kernel_rfl))).trans s6_10
       have hs : ax.tmps.size = 119 := hsz.trans z10
       have hi : ix < 8 := (Array.getElem?_eq_some_iff.1 ho).1
       clear hrest hsz hund
       obtain rfl | rfl | rfl | rfl | rfl | rfl | rfl | rfl : ix = 0 ∨ ix = 1 ∨ ix = 2 ∨ ix = 3 ∨ ix = 4 ∨ ix = 5 ∨ ix = 6 ∨ ix = 7 := by omega
       all_goals obtain rfl := Option.some.inj (show some _ = some ox from ho)
       ·
        exact wpOp_val (v := .pointer (some ⟨g1, 1, none⟩)) (w' := wx) rfl rfl (by simp [execOp, Act.eval, t4, go_sem]) ⟨_, rfl, tab_put rfl hs rfl rfl, hS.same 0 rfl⟩
       ·
        have s75 : ax.tmps.getD 75 undef = .pointer (some ⟨g1, 1, none⟩) := (hdone 0 _ rfl rfl).2 _ rfl
        have hr := hS.rowNi 0 rfl
        have hc := exec_load1 (i := 1) hr (v := .int .u64 b) rfl
        exact wpOp_val (v := .int .u64 b) (w' := wx) rfl rfl (by simp [execOp, Act.eval, s75, hc, go_sem]) ⟨_, rfl, tab_put rfl hs rfl rfl, hS.same 1 rfl⟩
       ·
        exact wpOp_val (v := .pointer (some ⟨g2, 1, none⟩)) (w' := wx) rfl rfl (by simp [execOp, Act.eval, t5, go_sem]) ⟨_, rfl, tab_put rfl hs rfl rfl, hS.same 2 rfl⟩
       ·
        have s77 : ax.tmps.getD 77 undef = .pointer (some ⟨g2, 1, none⟩) := (hdone 0 _ rfl rfl).2 _ rfl
        have hr := hS.rowNi 1 rfl
        have hc := exec_load1 (i := 1) hr (v := .int .u64 q) rfl
        exact wpOp_val (v := .int .u64 q) (w' := wx) rfl rfl (by simp [execOp, Act.eval, s77, hc, go_sem]) ⟨_, rfl, tab_put rfl hs rfl rfl, hS.same 3 rfl⟩
       ·
        have s78 : ax.tmps.getD 78 undef = .int .u64 q := (hdone 0 _ rfl rfl).2 _ rfl
        exact wpOp_val (v := .int .u64 (IntKind.u64.wrap (q - 1))) (w' := wx) rfl rfl (by (simp [execOp, Act.eval, s78, go_sem]; try (simp only [IntKind.wrap_i64, wrap64]))) ⟨_, rfl, tab_put rfl hs rfl rfl, hS.same 4 rfl⟩
       ·
        have s76 : ax.tmps.getD 76 undef = .int .u64 b := (hdone 0 _ rfl rfl).2 _ rfl
        have s79 : ax.tmps.getD 79 undef = .int .u64 (IntKind.u64.wrap (q - 1)) := (hdone 1 _ rfl rfl).2 _ rfl
        exact wpOp_val (v := .int .u64 (min b (IntKind.u64.wrap (q - 1)))) (w' := wx) rfl rfl (by simp [execOp, Act.eval, s76, s79, go_sem]) ⟨_, rfl, tab_put rfl hs rfl rfl, hS.same 5 rfl⟩
       ·
        have s80 : ax.tmps.getD 80 undef = .int .u64 (min b (IntKind.u64.wrap (q - 1))) := (hdone 0 _ rfl rfl).2 _ rfl
        refine wpOp_call (args := #[.int .u64 (min b (IntKind.u64.wrap (q - 1)))]) rfl rfl (exec_call rfl rfl rfl (args1 (show ax.eval (.tmp 80) = .int .u64 (min b (IntKind.u64.wrap (q - 1))) from s80)) Try.func81 (by decide +kernel) rfl) ?_
        · refine (upTo_n (min b (IntKind.u64.wrap (q - 1))) wx).mono ?_
          rintro e w' ⟨rfl, b9⟩
          exact ⟨_, rfl, _, rfl, tab_put rfl hs rfl rfl, hS.quiet 6 rfl b9⟩
       ·
        have s81 : ax.tmps.getD 81 undef = .agg #[.int .u64 0, .int .u64 (min b (IntKind.u64.wrap (q - 1)))] := (hdone 0 _ rfl rfl).2 _ rfl
        have hr := hS.rowFi 2 rfl hfi
        exact wpOp_skp (w' := wx.setRow g3 #[.int .u64 0, .int .u64 (min b (IntKind.u64.wrap (q - 1)))]) rfl rfl (exec_storeR 95 _ _ rfl g3 #[.int .u64 0, .int .u64 (min b (IntKind.u64.wrap (q - 1)))] (show ax.eval (.tmp 6) = .pointer (some ⟨g3, 0, none⟩) from t6) (show ax.eval (.tmp 81) = .agg #[.int .u64 0, .int .u64 (min b (IntKind.u64.wrap (q - 1)))] from s81) hr (by kernel_rfl) rfl (by simp [Value.oneCell'])) ⟨undef, rfl, trivial, hS.storeBi 7 2 rfl q_g3 rfl ⟨(show g1 ≠ g3 by omega), (show g2 ≠ g3 by omega), trivial⟩ (stored_setRow wx g3 _ _ _ hr)⟩
     intro a11 w11 fl d11 z11 rest11 R11 hfl hS
     obtain ⟨B11, n11, hBs, hAs, hPs⟩ := hS.finish hfl rfl
     replace d11 := d11.trans d10
     replace z11 := z11.trans z10
     obtain ⟨⟨-, b_g1_11⟩, ⟨-, b_g2_11⟩, ⟨-, b_g3_11⟩, -⟩ := hBs
     have s6_11 := (rest11 6 (not_of (by kernel_rfl))).trans s6_10
     clear R11 rest11 hS hfl hPs hAs
     clear s4_10 s5_10 s6_10 s71_10 b_g1_10 b_g2_10 b_g3_10 d10 z10
     refine wp_ret ?_
     try simp only [Exit.inBlock, Exit.then]
     refine bodyPost_ret (res_c (fn := Try.f92) rfl s6_11 (load_row 95 b_g3_11 Try.underlying95 rfl (by kernel_rfl))) d11 ?_
     have no5 := nb Ffk2.out
     have no4 := nb Ffk3.out
     have no10 := nb Ffk4.out
     have no3 := nb Ffk5.out
     have ho : op = 9 := yb Ffk7.out
     have HE : restU op ⟨⟨a, b⟩, ⟨c, d⟩⟩ ⟨⟨p, q⟩, ⟨r, t⟩⟩ = ⟨0, min b (IntKind.u64.wrap (q - 1))⟩ := by
       unfold restU
       rw [if_neg no5, if_neg no4, if_neg no10, if_neg no3]
       rw [if_pos ho]
       rw [if_neg (by have := Ffk8.out; simpa using this)]
       rw [← (HM.out Ffk8.out)]
       try rfl
     have HE2 : (.agg #[.int .u64 0, .int .u64 (min b (IntKind.u64.wrap (q - 1)))] : Value) = .agg #[.int .u64 (restU op ⟨⟨a, b⟩, ⟨c, d⟩⟩ ⟨⟨p, q⟩, ⟨r, t⟩⟩).lo, .int .u64 (restU op ⟨⟨a, b⟩, ⟨c, d⟩⟩ ⟨⟨p, q⟩, ⟨r, t⟩⟩).hi] := by rw [HE]
     exact ⟨retV HE2, B11⟩
    have Ffk8 := Lib.hid fk8; clear fk8
    refine wp_regx (SX W w9.heap.size [⟨g1, 60, (cR a b c d), none, #[]⟩, ⟨g2, 60, (cR p q r t), none, #[]⟩, ⟨g3, 95, (cU 0 0), none, #[]⟩] []) (TabX [fun vx => vx = .pointer (some ⟨g2, 0, none⟩), fun vx => vx = .int .u64 p, fun vx => vx = .bool true]) (by kernel_rfl) (back_of (by kernel_rfl)) (dst_of (by kernel_rfl)) (in_ofz (by kernel_rfl) z9) (fun fl w1 hfl hw => SX.start' hw B9 hfl rfl ⟨b_g1_9, b_g2_9, b_g3_9, trivial⟩) ?h23 ?_
    case h23 =>
      intro ix ox ax wx fl ho hS hfi clo hsz hrest hdone hund
      have t5 := (hrest 5 (not_of (by kernel_rfl))).trans s5_9
      have hs : ax.tmps.size = 119 := hsz.trans z9
      have hi : ix < 3 := (Array.getElem?_eq_some_iff.1 ho).1
      clear hrest hsz hund
      obtain rfl | rfl | rfl : ix = 0 ∨ ix = 1 ∨ ix = 2 := by omega
      all_goals obtain rfl := Option.some.inj (show some _ = some ox from ho)
      ·
       exact wpOp_val (v := .pointer (some ⟨g2, 0, none⟩)) (w' := wx) rfl rfl (by simp [execOp, Act.eval, t5, go_sem]) ⟨_, rfl, tab_put rfl hs rfl rfl, hS.same 0 rfl⟩
      ·
       have s69 : ax.tmps.getD 69 undef = .pointer (some ⟨g2, 0, none⟩) := (hdone 0 _ rfl rfl).2 _ rfl
       have hr := hS.rowNi 1 rfl
       have hc := exec_load1 (i := 0) hr (v := .int .u64 p) rfl
       exact wpOp_val (v := .int .u64 p) (w' := wx) rfl rfl (by simp [execOp, Act.eval, s69, hc, go_sem]) ⟨_, rfl, tab_put rfl hs rfl rfl, hS.same 1 rfl⟩
      ·
       have s70 : ax.tmps.getD 70 undef = .int .u64 p := (hdone 0 _ rfl rfl).2 _ rfl
       exact wpOp_val (v := .bool (p == 0)) (w' := wx) rfl rfl (by (simp [execOp, Act.eval, s70, go_sem]; try (simp only [IntKind.wrap_i64, wrap64]))) ⟨_, rfl, tab_put rfl hs rfl (congrArg Value.bool Ffk8.out), hS.same 2 rfl⟩
    intro a10 w10 fl d10 z10 rest10 R10 hfl hS
    obtain ⟨B10, n10, hBs, hAs, hPs⟩ := hS.finish hfl rfl
    replace d10 := d10.trans d9
    replace z10 := z10.trans z9
    obtain ⟨⟨-, b_g1_10⟩, ⟨-, b_g2_10⟩, ⟨-, b_g3_10⟩, -⟩ := hBs
    have s4_10 := (rest10 4 (not_of (by kernel_rfl))).trans s4_9
    have s5_10 := (rest10 5 (not_of (by kernel_rfl))).trans s5_9
    have s6_10 := (rest10 6 (not_of (by kernel_rfl))).trans s6_9
    have s71_10 : a10.tmps.getD 71 undef = .bool true := R10 2 _ rfl
    clear R10 rest10 hS hfl hPs hAs
    clear s4_9 s5_9 s6_9 s7_9 s8_9 s16_9 s67_9 b_g1_9 b_g2_9 b_g3_9 d9 z9
    refine wp_cond_true (show a10.tmps.getD 71 undef = .bool true from s71_10) ?_
    refine wp_seq ?_
    refine wp_regx (SX W w10.heap.size [⟨g1, 60, (cR a b c d), none, #[]⟩, ⟨g2, 60, (cR p q r t), none, #[]⟩, ⟨g3, 95, (cU 0 0), some 3, (cU 0 b)⟩] []) (TabX [fun vx => vx = .pointer (some ⟨g1, 1, none⟩), fun vx => vx = .int .u64 b, fun vx => vx = .agg #[.int .u64 0, .int .u64 b], fun _ => True]) (by kernel_rfl) (back_of (by kernel_rfl)) (dst_of (by kernel_rfl)) (in_ofz (by kernel_rfl) z10) (fun fl w1 hfl hw => SX.start' hw B10 hfl rfl ⟨b_g1_10, b_g2_10, b_g3_10, trivial⟩) ?h24 ?_
    case h24 =>
      intro ix ox ax wx fl ho hS hfi clo hsz hrest hdone hund
      have t4 := (hrest 4 (not_of (by kernel_rfl))).trans s4_10
      have t6 := (hrest 6 (not_of (by kernel_rfl))).trans s6_10
      have hs : ax.tmps.size = 119 := hsz.trans z10
      have hi : ix < 4 := (Array.getElem?_eq_some_iff.1 ho).1
      clear hrest hsz hund
      obtain rfl | rfl | rfl | rfl : ix = 0 ∨ ix = 1 ∨ ix = 2 ∨ ix = 3 := by omega
      all_goals obtain rfl := Option.some.inj (show some _ = some ox from ho)
      ·
       exact wpOp_val (v := .pointer (some ⟨g1, 1, none⟩)) (w' := wx) rfl rfl (by simp [execOp, Act.eval, t4, go_sem]) ⟨_, rfl, tab_put rfl hs rfl rfl, hS.same 0 rfl⟩
      ·
       have s72 : ax.tmps.getD 72 undef = .pointer (some ⟨g1, 1, none⟩) := (hdone 0 _ rfl rfl).2 _ rfl
       have hr := hS.rowNi 0 rfl
       have hc := exec_load1 (i := 1) hr (v := .int .u64 b) rfl
       exact wpOp_val (v := .int .u64 b) (w' := wx) rfl rfl (by simp [execOp, Act.eval, s72, hc, go_sem]) ⟨_, rfl, tab_put rfl hs rfl rfl, hS.same 1 rfl⟩
      ·
       have s73 : ax.tmps.getD 73 undef = .int .u64 b := (hdone 0 _ rfl rfl).2 _ rfl
       refine wpOp_call (args := #[.int .u64 b]) rfl rfl (exec_call rfl rfl rfl (args1 (show ax.eval (.tmp 73) = .int .u64 b from s73)) Try.func81 (by decide +kernel) rfl) ?_
       · refine (upTo_n b wx).mono ?_
         rintro e w' ⟨rfl, b9⟩
         exact ⟨_, rfl, _, rfl, tab_put rfl hs rfl rfl, hS.quiet 2 rfl b9⟩
      ·
       have s74 : ax.tmps.getD 74 undef = .agg #[.int .u64 0, .int .u64 b] := (hdone 0 _ rfl rfl).2 _ rfl
       have hr := hS.rowFi 2 rfl hfi
       exact wpOp_skp (w' := wx.setRow g3 #[.int .u64 0, .int .u64 b]) rfl rfl (exec_storeR 95 _ _ rfl g3 #[.int .u64 0, .int .u64 b] (show ax.eval (.tmp 6) = .pointer (some ⟨g3, 0, none⟩) from t6) (show ax.eval (.tmp 74) = .agg #[.int .u64 0, .int .u64 b] from s74) hr (by kernel_rfl) rfl (by simp [Value.oneCell'])) ⟨undef, rfl, trivial, hS.storeBi 3 2 rfl q_g3 rfl ⟨(show g1 ≠ g3 by omega), (show g2 ≠ g3 by omega), trivial⟩ (stored_setRow wx g3 _ _ _ hr)⟩
    intro a11 w11 fl d11 z11 rest11 R11 hfl hS
    obtain ⟨B11, n11, hBs, hAs, hPs⟩ := hS.finish hfl rfl
    replace d11 := d11.trans d10
    replace z11 := z11.trans z10
    obtain ⟨⟨-, b_g1_11⟩, ⟨-, b_g2_11⟩, ⟨-, b_g3_11⟩, -⟩ := hBs
    have s4_11 := (rest11 4 (not_of (by kernel_rfl))).trans s4_10
    have s5_11 := (rest11 5 (not_of (by kernel_rfl))).trans s5_10
    have s6_11 := (rest11 6 (not_of (by kernel_rfl))).trans s6_10
    clear R11 rest11 hS hfl hPs hAs
    clear s4_10 s5_10 s6_10 s71_10 b_g1_10 b_g2_10 b_g3_10 d10 z10
    refine wp_ret ?_
    try simp only [Exit.inBlock, Exit.then]
    refine bodyPost_ret (res_c (fn := Try.f92) rfl s6_11 (load_row 95 b_g3_11 Try.underlying95 rfl (by kernel_rfl))) d11 ?_
    have no5 := nb Ffk2.out
    have no4 := nb Ffk3.out
    have no10 := nb Ffk4.out
    have no3 := nb Ffk5.out
    have ho : op = 9 := yb Ffk7.out
    have HE : restU op ⟨⟨a, b⟩, ⟨c, d⟩⟩ ⟨⟨p, q⟩, ⟨r, t⟩⟩ = ⟨0, b⟩ := by
      unfold restU
      rw [if_neg no5, if_neg no4, if_neg no10, if_neg no3]
      rw [if_pos ho]
      rw [if_pos (by have := Ffk8.out; simpa using this)]
      try rfl
    have HE2 : (.agg #[.int .u64 0, .int .u64 b] : Value) = .agg #[.int .u64 (restU op ⟨⟨a, b⟩, ⟨c, d⟩⟩ ⟨⟨p, q⟩, ⟨r, t⟩⟩).lo, .int .u64 (restU op ⟨⟨a, b⟩, ⟨c, d⟩⟩ ⟨⟨p, q⟩, ⟨r, t⟩⟩).hi] := by rw [HE]
    exact ⟨retV HE2, B11⟩
   have Ffk7 := Lib.hid fk7; clear fk7
   refine wp_regx (SX W w8.heap.size [⟨g1, 60, (cR a b c d), none, #[]⟩, ⟨g2, 60, (cR p q r t), none, #[]⟩, ⟨g3, 95, (cU 0 0), none, #[]⟩] []) (TabX [fun vx => vx = .bool false, fun vx => vx = .bool false]) (by kernel_rfl) (back_of (by kernel_rfl)) (dst_of (by kernel_rfl)) (in_ofz (by kernel_rfl) z8) (fun fl w1 hfl hw => SX.start' hw B8 hfl rfl ⟨b_g1_8, b_g2_8, b_g3_8, trivial⟩) ?h25 ?_
   case h25 =>
     intro ix ox ax wx fl ho hS hfi clo hsz hrest hdone hund
     have t16 := (hrest 16 (not_of (by kernel_rfl))).trans s16_8
     have hs : ax.tmps.size = 119 := hsz.trans z8
     have hi : ix < 2 := (Array.getElem?_eq_some_iff.1 ho).1
     clear hrest hsz hund
     obtain rfl | rfl : ix = 0 ∨ ix = 1 := by omega
     all_goals obtain rfl := Option.some.inj (show some _ = some ox from ho)
     ·
      exact wpOp_val (v := .bool (op == 9)) (w' := wx) rfl rfl (by (simp [execOp, Act.eval, t16, go_sem]; try (simp only [IntKind.wrap_i64, wrap64]))) ⟨_, rfl, tab_put rfl hs rfl (congrArg Value.bool Ffk7.out), hS.same 0 rfl⟩
     ·
      have s68 : ax.tmps.getD 68 undef = .bool false := (hdone 0 _ rfl rfl).2 _ rfl
      exact wpOp_val (v := .bool false) (w' := wx) rfl rfl (by simp [execOp, Act.eval, s68]) ⟨_, rfl, tab_put rfl hs rfl rfl, hS.same 1 rfl⟩
   intro a9 w9 fl d9 z9 rest9 R9 hfl hS
   obtain ⟨B9, n9, hBs, hAs, hPs⟩ := hS.finish hfl rfl
   replace d9 := d9.trans d8
   replace z9 := z9.trans z8
   obtain ⟨⟨-, b_g1_9⟩, ⟨-, b_g2_9⟩, ⟨-, b_g3_9⟩, -⟩ := hBs
   have s4_9 := (rest9 4 (not_of (by kernel_rfl))).trans s4_8
   have s5_9 := (rest9 5 (not_of (by kernel_rfl))).trans s5_8
   have s6_9 := (rest9 6 (not_of (by kernel_rfl))).trans s6_8
   have s7_9 := (rest9 7 (not_of (by kernel_rfl))).trans s7_8
   have s8_9 := (rest9 8 (not_of (by kernel_rfl))).trans s8_8
   have s16_9 := (rest9 16 (not_of (by kernel_rfl))).trans s16_8
   have s67_9 : a9.tmps.getD 67 undef = .bool false := R9 1 _ rfl
   clear R9 rest9 hS hfl hPs hAs
   clear s4_8 s5_8 s6_8 s7_8 s8_8 s16_8 s48_8 b_g1_8 b_g2_8 b_g3_8 d8 z8
   refine wp_cond_false (show a9.tmps.getD 67 undef = .bool false from s67_9) ?_
   refine wp_seq ?_
   cases fk9 : op == 7
   case true =>
    have Ffk9 := Lib.hid fk9; clear fk9
    refine wp_regx (SX W w9.heap.size [⟨g1, 60, (cR a b c d), none, #[]⟩, ⟨g2, 60, (cR p q r t), none, #[]⟩, ⟨g3, 95, (cU 0 0), none, #[]⟩] []) (TabX [fun vx => vx = .bool true, fun vx => vx = .bool true]) (by kernel_rfl) (back_of (by kernel_rfl)) (dst_of (by kernel_rfl)) (in_ofz (by kernel_rfl) z9) (fun fl w1 hfl hw => SX.start' hw B9 hfl rfl ⟨b_g1_9, b_g2_9, b_g3_9, trivial⟩) ?h26 ?_
    case h26 =>
      intro ix ox ax wx fl ho hS hfi clo hsz hrest hdone hund
      have t16 := (hrest 16 (not_of (by kernel_rfl))).trans s16_9
      have hs : ax.tmps.size = 119 := hsz.trans z9
      have hi : ix < 2 := (Array.getElem?_eq_some_iff.1 ho).1
      clear hrest hsz hund
      obtain rfl | rfl : ix = 0 ∨ ix = 1 := by omega
      all_goals obtain rfl := Option.some.inj (show some _ = some ox from ho)
      ·
       exact wpOp_val (v := .bool (op == 7)) (w' := wx) rfl rfl (by (simp [execOp, Act.eval, t16, go_sem]; try (simp only [IntKind.wrap_i64, wrap64]))) ⟨_, rfl, tab_put rfl hs rfl (congrArg Value.bool Ffk9.out), hS.same 0 rfl⟩
      ·
       have s83 : ax.tmps.getD 83 undef = .bool true := (hdone 0 _ rfl rfl).2 _ rfl
       exact wpOp_val (v := .bool true) (w' := wx) rfl rfl (by simp [execOp, Act.eval, s83]) ⟨_, rfl, tab_put rfl hs rfl rfl, hS.same 1 rfl⟩
    intro a10 w10 fl d10 z10 rest10 R10 hfl hS
    obtain ⟨B10, n10, hBs, hAs, hPs⟩ := hS.finish hfl rfl
    replace d10 := d10.trans d9
    replace z10 := z10.trans z9
    obtain ⟨⟨-, b_g1_10⟩, ⟨-, b_g2_10⟩, ⟨-, b_g3_10⟩, -⟩ := hBs
    have s4_10 := (rest10 4 (not_of (by kernel_rfl))).trans s4_9
    have s6_10 := (rest10 6 (not_of (by kernel_rfl))).trans s6_9
    have s7_10 := (rest10 7 (not_of (by kernel_rfl))).trans s7_9
    have s8_10 := (rest10 8 (not_of (by kernel_rfl))).trans s8_9
    have s16_10 := (rest10 16 (not_of (by kernel_rfl))).trans s16_9
    have s82_10 : a10.tmps.getD 82 undef = .bool true := R10 1 _ rfl
    clear R10 rest10 hS hfl hPs hAs
    clear s4_9 s5_9 s6_9 s7_9 s8_9 s16_9 s67_9 b_g1_9 b_g2_9 b_g3_9 d9 z9
    refine wp_cond_true (show a10.tmps.getD 82 undef = .bool true from s82_10) ?_
    refine wp_seq ?_
    refine wp_regx (SX W w10.heap.size [⟨g1, 60, (cR a b c d), none, #[]⟩, ⟨g2, 60, (cR p q r t), none, #[]⟩, ⟨g3, 95, (cU 0 0), none, #[]⟩] []) (TabX [fun vx => vx = .bool false]) (by kernel_rfl) (back_of (by kernel_rfl)) (dst_of (by kernel_rfl)) (in_ofz (by kernel_rfl) z10) (fun fl w1 hfl hw => SX.start' hw B10 hfl rfl ⟨b_g1_10, b_g2_10, b_g3_10, trivial⟩) ?h27 ?_
    case h27 =>
      intro ix ox ax wx fl ho hS hfi clo hsz hrest hdone hund
      have t8 := (hrest 8 (not_of (by kernel_rfl))).trans s8_10
      have hs : ax.tmps.size = 119 := hsz.trans z10
      have hi : ix < 1 := (Array.getElem?_eq_some_iff.1 ho).1
      clear hrest hsz hund
      obtain rfl : ix = 0 := by omega
      all_goals obtain rfl := Option.some.inj (show some _ = some ox from ho)
      ·
       exact wpOp_val (v := .bool false) (w' := wx) rfl rfl (by simp [execOp, Act.eval, t8]) ⟨_, rfl, tab_put rfl hs rfl rfl, hS.same 0 rfl⟩
    intro a11 w11 fl d11 z11 rest11 R11 hfl hS
    obtain ⟨B11, n11, hBs, hAs, hPs⟩ := hS.finish hfl rfl
    replace d11 := d11.trans d10
    replace z11 := z11.trans z10
    obtain ⟨⟨-, b_g1_11⟩, ⟨-, b_g2_11⟩, ⟨-, b_g3_11⟩, -⟩ := hBs
    have s4_11 := (rest11 4 (not_of (by kernel_rfl))).trans s4_10
    have s6_11 := (rest11 6 (not_of (by kernel_rfl))).trans s6_10
    have s7_11 := (rest11 7 (not_of (by kernel_rfl))).trans s7_10
    have s84_11 : a11.tmps.getD 84 undef = .bool false := R11 0 _ rfl
    clear R11 rest11 hS hfl hPs hAs
    clear s4_10 s6_10 s7_10 s8_10 s16_10 s82_10 b_g1_10 b_g2_10 b_g3_10 d10 z10
    refine wp_cond_false (show a11.tmps.getD 84 undef = .bool false from s84_11) ?_
    refine wp_skip ?_
    refine wp_seq ?_
    refine wp_regx (SX W w11.heap.size [⟨g1, 60, (cR a b c d), none, #[]⟩, ⟨g2, 60, (cR p q r t), none, #[]⟩, ⟨g3, 95, (cU 0 0), some 2, (cU allR.u.lo allR.u.hi)⟩] []) (TabX [fun vx => vx = .agg #[.int .u64 allR.u.lo, .int .u64 allR.u.hi, .int .i64 allR.s.lo, .int .i64 allR.s.hi], fun vx => vx = .agg #[.int .u64 allR.u.lo, .int .u64 allR.u.hi], fun _ => True]) (by kernel_rfl) (back_of (by kernel_rfl)) (dst_of (by kernel_rfl)) (in_ofz (by kernel_rfl) z11) (fun fl w1 hfl hw => SX.start' hw B11 hfl rfl ⟨b_g1_11, b_g2_11, b_g3_11, trivial⟩) ?h28 ?_
    case h28 =>
      intro ix ox ax wx fl ho hS hfi clo hsz hrest hdone hund
      have t6 := (hrest 6 (not_of (by kernel_rfl))).trans s6_11
      have hs : ax.tmps.size = 119 := hsz.trans z11
      have hi : ix < 3 := (Array.getElem?_eq_some_iff.1 ho).1
      clear hrest hsz hund
      obtain rfl | rfl | rfl : ix = 0 ∨ ix = 1 ∨ ix = 2 := by omega
      all_goals obtain rfl := Option.some.inj (show some _ = some ox from ho)
      ·
       refine wpOp_call (args := #[]) rfl rfl (exec_call rfl rfl rfl (args0 ) Try.func32 (by decide +kernel) rfl) ?_
       · refine (all_n wx).mono ?_
         rintro e w' ⟨rfl, b9⟩
         exact ⟨_, rfl, _, rfl, tab_put rfl hs rfl rfl, hS.quiet 0 rfl b9⟩
      ·
       have s117 : ax.tmps.getD 117 undef = .agg #[.int .u64 allR.u.lo, .int .u64 allR.u.hi, .int .i64 allR.s.lo, .int .i64 allR.s.hi] := (hdone 0 _ rfl rfl).2 _ rfl
       refine wpOp_call (args := #[.agg #[.int .u64 allR.u.lo, .int .u64 allR.u.hi, .int .i64 allR.s.lo, .int .i64 allR.s.hi]]) rfl rfl (exec_call rfl rfl rfl (args1 (show ax.eval (.tmp 117) = .agg #[.int .u64 allR.u.lo, .int .u64 allR.u.hi, .int .i64 allR.s.lo, .int .i64 allR.s.hi] from s117)) Try.func61 (by decide +kernel) rfl) ?_
       · refine (unsigned_n allR.u.lo allR.u.hi allR.s.lo allR.s.hi wx).mono ?_
         rintro e w' ⟨rfl, b9⟩
         exact ⟨_, rfl, _, rfl, tab_put rfl hs rfl rfl, hS.quiet 1 rfl b9⟩
      ·
       have s118 : ax.tmps.getD 118 undef = .agg #[.int .u64 allR.u.lo, .int .u64 allR.u.hi] := (hdone 0 _ rfl rfl).2 _ rfl
       have hr := hS.rowFi 2 rfl hfi
       exact wpOp_skp (w' := wx.setRow g3 #[.int .u64 allR.u.lo, .int .u64 allR.u.hi]) rfl rfl (exec_storeR 95 _ _ rfl g3 #[.int .u64 allR.u.lo, .int .u64 allR.u.hi] (show ax.eval (.tmp 6) = .pointer (some ⟨g3, 0, none⟩) from t6) (show ax.eval (.tmp 118) = .agg #[.int .u64 allR.u.lo, .int .u64 allR.u.hi] from s118) hr (by kernel_rfl) rfl (by simp [Value.oneCell'])) ⟨undef, rfl, trivial, hS.storeBi 2 2 rfl q_g3 rfl ⟨(show g1 ≠ g3 by omega), (show g2 ≠ g3 by omega), trivial⟩ (stored_setRow wx g3 _ _ _ hr)⟩
    intro a12 w12 fl d12 z12 rest12 R12 hfl hS
    obtain ⟨B12, n12, hBs, hAs, hPs⟩ := hS.finish hfl rfl
    replace d12 := d12.trans d11
    replace z12 := z12.trans z11
    obtain ⟨⟨-, b_g1_12⟩, ⟨-, b_g2_12⟩, ⟨-, b_g3_12⟩, -⟩ := hBs
    have s6_12 := (rest12 6 (not_of (by kernel_rfl))).trans s6_11
    clear R12 rest12 hS hfl hPs hAs
    clear s4_11 s6_11 s7_11 s84_11 b_g1_11 b_g2_11 b_g3_11 d11 z11
    refine wp_ret ?_
    try simp only [Exit.inBlock, Exit.then]
    refine bodyPost_ret (res_c (fn := Try.f92) rfl s6_12 (load_row 95 b_g3_12 Try.underlying95 rfl (by kernel_rfl))) d12 ?_
    have no5 := nb Ffk2.out
    have no4 := nb Ffk3.out
    have no10 := nb Ffk4.out
    have no3 := nb Ffk5.out
    have no9 := nb Ffk7.out
    have ho : op = 7 := yb Ffk9.out
    have HE : restU op ⟨⟨a, b⟩, ⟨c, d⟩⟩ ⟨⟨p, q⟩, ⟨r, t⟩⟩ = ⟨allR.u.lo, allR.u.hi⟩ := by
      unfold restU
      rw [if_neg no5, if_neg no4, if_neg no10, if_neg no3, if_neg no9]
      rw [if_pos ho]
      rw [if_neg (by rw [Ffk1.out]; decide)]
      try rfl
    have HE2 : (.agg #[.int .u64 allR.u.lo, .int .u64 allR.u.hi] : Value) = .agg #[.int .u64 (restU op ⟨⟨a, b⟩, ⟨c, d⟩⟩ ⟨⟨p, q⟩, ⟨r, t⟩⟩).lo, .int .u64 (restU op ⟨⟨a, b⟩, ⟨c, d⟩⟩ ⟨⟨p, q⟩, ⟨r, t⟩⟩).hi] := by rw [HE]
    exact ⟨retV HE2, B12⟩
   have Ffk9 := Lib.hid fk9; clear fk9
   refine wp_regx (SX W w9.heap.size [⟨g1, 60, (cR a b c d), none, #[]⟩, ⟨g2, 60, (cR p q r t), none, #[]⟩, ⟨g3, 95, (cU 0 0), none, #[]⟩] []) (TabX [fun vx => vx = .bool false, fun vx => vx = .bool false]) (by kernel_rfl) (back_of (by kernel_rfl)) (dst_of (by kernel_rfl)) (in_ofz (by kernel_rfl) z9) (fun fl w1 hfl hw => SX.start' hw B9 hfl rfl ⟨b_g1_9, b_g2_9, b_g3_9, trivial⟩) ?h29 ?_
   case h29 =>
     intro ix ox ax wx fl ho hS hfi clo hsz hrest hdone hund
     have t16 := (hrest 16 (not_of (by kernel_rfl))).trans s16_9
     have hs : ax.tmps.size = 119 := hsz.trans z9
     have hi : ix < 2 := (Array.getElem?_eq_some_iff.1 ho).1
     clear hrest hsz hund
     obtain rfl | rfl : ix = 0 ∨ ix = 1 := by omega
     all_goals obtain rfl := Option.some.inj (show some _ = some ox from ho)
     ·
      exact wpOp_val (v := .bool (op == 7)) (w' := wx) rfl rfl (by (simp [execOp, Act.eval, t16, go_sem]; try (simp only [IntKind.wrap_i64, wrap64]))) ⟨_, rfl, tab_put rfl hs rfl (congrArg Value.bool Ffk9.out), hS.same 0 rfl⟩
     ·
      have s83 : ax.tmps.getD 83 undef = .bool false := (hdone 0 _ rfl rfl).2 _ rfl
      exact wpOp_val (v := .bool false) (w' := wx) rfl rfl (by simp [execOp, Act.eval, s83]) ⟨_, rfl, tab_put rfl hs rfl rfl, hS.same 1 rfl⟩
   intro a10 w10 fl d10 z10 rest10 R10 hfl hS
   obtain ⟨B10, n10, hBs, hAs, hPs⟩ := hS.finish hfl rfl
   replace d10 := d10.trans d9
   replace z10 := z10.trans z9
   obtain ⟨⟨-, b_g1_10⟩, ⟨-, b_g2_10⟩, ⟨-, b_g3_10⟩, -⟩ := hBs
   have s4_10 := (rest10 4 (not_of (by kernel_rfl))).trans s4_9
   have s6_10 := (rest10 6 (not_of (by kernel_rfl))).trans s6_9
   have s7_10 := (rest10 7 (not_of (by kernel_rfl))).trans s7_9
   have s8_10 := (rest10 8 (not_of (by kernel_rfl))).trans s8_9
   have s16_10 := (rest10 16 (not_of (by kernel_rfl))).trans s16_9
   have s82_10 : a10.tmps.getD 82 undef = .bool false := R10 1 _ rfl
   clear R10 rest10 hS hfl hPs hAs
   clear s4_9 s5_9 s6_9 s7_9 s8_9 s16_9 s67_9 b_g1_9 b_g2_9 b_g3_9 d9 z9
   refine wp_cond_false (show a10.tmps.getD 82 undef = .bool false from s82_10) ?_
   refine wp_seq ?_
   cases fk10 : op == 6
   case true =>
    have Ffk10 := Lib.hid fk10; clear fk10
    refine wp_regx (SX W w10.heap.size [⟨g1, 60, (cR a b c d), none, #[]⟩, ⟨g2, 60, (cR p q r t), none, #[]⟩, ⟨g3, 95, (cU 0 0), none, #[]⟩] []) (TabX [fun vx => vx = .bool true, fun vx => vx = .bool true]) (by kernel_rfl) (back_of (by kernel_rfl)) (dst_of (by kernel_rfl)) (in_ofz (by kernel_rfl) z10) (fun fl w1 hfl hw => SX.start' hw B10 hfl rfl ⟨b_g1_10, b_g2_10, b_g3_10, trivial⟩) ?h30 ?_
    case h30 =>
      intro ix ox ax wx fl ho hS hfi clo hsz hrest hdone hund
      have t16 := (hrest 16 (not_of (by kernel_rfl))).trans s16_10
      have hs : ax.tmps.size = 119 := hsz.trans z10
      have hi : ix < 2 := (Array.getElem?_eq_some_iff.1 ho).1
      clear hrest hsz hund
      obtain rfl | rfl : ix = 0 ∨ ix = 1 := by omega
      all_goals obtain rfl := Option.some.inj (show some _ = some ox from ho)
      ·
       exact wpOp_val (v := .bool (op == 6)) (w' := wx) rfl rfl (by (simp [execOp, Act.eval, t16, go_sem]; try (simp only [IntKind.wrap_i64, wrap64]))) ⟨_, rfl, tab_put rfl hs rfl (congrArg Value.bool Ffk10.out), hS.same 0 rfl⟩
      ·
       have s95 : ax.tmps.getD 95 undef = .bool true := (hdone 0 _ rfl rfl).2 _ rfl
       exact wpOp_val (v := .bool true) (w' := wx) rfl rfl (by simp [execOp, Act.eval, s95]) ⟨_, rfl, tab_put rfl hs rfl rfl, hS.same 1 rfl⟩
    intro a11 w11 fl d11 z11 rest11 R11 hfl hS
    obtain ⟨B11, n11, hBs, hAs, hPs⟩ := hS.finish hfl rfl
    replace d11 := d11.trans d10
    replace z11 := z11.trans z10
    obtain ⟨⟨-, b_g1_11⟩, ⟨-, b_g2_11⟩, ⟨-, b_g3_11⟩, -⟩ := hBs
    have s4_11 := (rest11 4 (not_of (by kernel_rfl))).trans s4_10
    have s6_11 := (rest11 6 (not_of (by kernel_rfl))).trans s6_10
    have s7_11 := (rest11 7 (not_of (by kernel_rfl))).trans s7_10
    have s8_11 := (rest11 8 (not_of (by kernel_rfl))).trans s8_10
    have s94_11 : a11.tmps.getD 94 undef = .bool true := R11 1 _ rfl
    clear R11 rest11 hS hfl hPs hAs
    clear s4_10 s6_10 s7_10 s8_10 s16_10 s82_10 b_g1_10 b_g2_10 b_g3_10 d10 z10
    refine wp_cond_true (show a11.tmps.getD 94 undef = .bool true from s94_11) ?_
    refine wp_seq ?_
    refine wp_regx (SX W w11.heap.size [⟨g1, 60, (cR a b c d), none, #[]⟩, ⟨g2, 60, (cR p q r t), none, #[]⟩, ⟨g3, 95, (cU 0 0), none, #[]⟩] []) (TabX [fun vx => vx = .bool false, fun vx => vx = .bool false, fun vx => vx = undef, fun vx => vx = undef, fun vx => vx = undef, fun vx => vx = undef, fun vx => vx = undef, fun vx => vx = undef, fun vx => vx = undef, fun vx => vx = undef, fun vx => vx = undef, fun vx => vx = .bool false]) (by kernel_rfl) (back_of (by kernel_rfl)) (dst_of (by kernel_rfl)) (in_ofz (by kernel_rfl) z11) (fun fl w1 hfl hw => SX.start' hw B11 hfl rfl ⟨b_g1_11, b_g2_11, b_g3_11, trivial⟩) ?h31 ?_
    case h31 =>
      intro ix ox ax wx fl ho hS hfi clo hsz hrest hdone hund
      have t4 := (hrest 4 (not_of (by kernel_rfl))).trans s4_11
      have t7 := (hrest 7 (not_of (by kernel_rfl))).trans s7_11
      have t8 := (hrest 8 (not_of (by kernel_rfl))).trans s8_11
      have hs : ax.tmps.size = 119 := hsz.trans z11
      have hi : ix < 12 := (Array.getElem?_eq_some_iff.1 ho).1
      clear hrest hsz hund
      obtain rfl | rfl | rfl | rfl | rfl | rfl | rfl | rfl | rfl | rfl | rfl | rfl : ix = 0 ∨ ix = 1 ∨ ix = 2 ∨ ix = 3 ∨ ix = 4 ∨ ix = 5 ∨ ix = 6 ∨ ix = 7 ∨ ix = 8 ∨ ix = 9 ∨ ix = 10 ∨ ix = 11 := by omega
      all_goals obtain rfl := Option.some.inj (show some _ = some ox from ho)
      ·
       exact wpOp_val (v := .bool false) (w' := wx) rfl rfl (by simp [execOp, Act.eval, t8]) ⟨_, rfl, tab_put rfl hs rfl rfl, hS.same 0 rfl⟩
      ·
       have s96 : ax.tmps.getD 96 undef = .bool false := (hdone 0 _ rfl rfl).2 _ rfl
       exact wpOp_val (v := .bool false) (w' := wx) rfl rfl (by simp [execOp, Act.eval, s96]) ⟨_, rfl, tab_put rfl hs rfl rfl, hS.same 1 rfl⟩
      ·
       have hg : ax.tmps.getD 97 undef = .bool false := (hdone 0 _ rfl rfl).2 _ rfl
       exact wpOp_no rfl (wanted_no 1 97 false hg (by rw [hs]; omega) rfl rfl rfl rfl) ⟨_, rfl, tab_put rfl hs rfl rfl, hS.same 2 rfl⟩
      ·
       have hg : ax.tmps.getD 97 undef = .bool false := (hdone 1 _ rfl rfl).2 _ rfl
       exact wpOp_no rfl (wanted_no 1 97 false hg (by rw [hs]; omega) rfl rfl rfl rfl) ⟨_, rfl, tab_put rfl hs rfl rfl, hS.same 3 rfl⟩
      ·
       have hg : ax.tmps.getD 97 undef = .bool false := (hdone 0 _ rfl rfl).2 _ rfl
       exact wpOp_no rfl (wanted_no 1 97 false hg (by rw [hs]; omega) rfl rfl rfl rfl) ⟨_, rfl, tab_put rfl hs rfl rfl, hS.same 4 rfl⟩
      ·
       have hg : ax.tmps.getD 97 undef = .bool false := (hdone 2 _ rfl rfl).2 _ rfl
       exact wpOp_no rfl (wanted_no 1 97 false hg (by rw [hs]; omega) rfl rfl rfl rfl) ⟨_, rfl, tab_put rfl hs rfl rfl, hS.same 5 rfl⟩
      ·
       have hg : ax.tmps.getD 97 undef = .bool false := (hdone 0 _ rfl rfl).2 _ rfl
       exact wpOp_no rfl (wanted_no 1 97 false hg (by rw [hs]; omega) rfl rfl rfl rfl) ⟨_, rfl, tab_put rfl hs rfl rfl, hS.same 6 rfl⟩
      ·
       have hg : ax.tmps.getD 97 undef = .bool false := (hdone 2 _ rfl rfl).2 _ rfl
       exact wpOp_no rfl (wanted_no 1 97 false hg (by rw [hs]; omega) rfl rfl rfl rfl) ⟨_, rfl, tab_put rfl hs rfl rfl, hS.same 7 rfl⟩
      ·
       have hg : ax.tmps.getD 97 undef = .bool false := (hdone 0 _ rfl rfl).2 _ rfl
       exact wpOp_no rfl (wanted_no 1 97 false hg (by rw [hs]; omega) rfl rfl rfl rfl) ⟨_, rfl, tab_put rfl hs rfl rfl, hS.same 8 rfl⟩
      ·
       have hg : ax.tmps.getD 97 undef = .bool false := (hdone 1 _ rfl rfl).2 _ rfl
       exact wpOp_no rfl (wanted_no 1 97 false hg (by rw [hs]; omega) rfl rfl rfl rfl) ⟨_, rfl, tab_put rfl hs rfl rfl, hS.same 9 rfl⟩
      ·
       have hg : ax.tmps.getD 97 undef = .bool false := (hdone 2 _ rfl rfl).2 _ rfl
       exact wpOp_no rfl (wanted_no 1 97 false hg (by rw [hs]; omega) rfl rfl rfl rfl) ⟨_, rfl, tab_put rfl hs rfl rfl, hS.same 10 rfl⟩
      ·
       have s97 : ax.tmps.getD 97 undef = .bool false := (hdone 0 _ rfl rfl).2 _ rfl
       have s106 : ax.tmps.getD 106 undef = undef := (hdone 1 _ rfl rfl).2 _ rfl
       exact wpOp_val (v := .bool false) (w' := wx) rfl rfl (by simp [execOp, Act.eval, s97, s106, go_sem]) ⟨_, rfl, tab_put rfl hs rfl rfl, hS.same 11 rfl⟩
    intro a12 w12 fl d12 z12 rest12 R12 hfl hS
    obtain ⟨B12, n12, hBs, hAs, hPs⟩ := hS.finish hfl rfl
    replace d12 := d12.trans d11
    replace z12 := z12.trans z11
    obtain ⟨⟨-, b_g1_12⟩, ⟨-, b_g2_12⟩, ⟨-, b_g3_12⟩, -⟩ := hBs
    have s4_12 := (rest12 4 (not_of (by kernel_rfl))).trans s4_11
    have s6_12 := (rest12 6 (not_of (by kernel_rfl))).trans s6_11
    have s7_12 := (rest12 7 (not_of (by kernel_rfl))).trans s7_11
    have s107_12 : a12.tmps.getD 107 undef = .bool false := R12 11 _ rfl
    clear R12 rest12 hS hfl hPs hAs
    clear s4_11 s6_11 s7_11 s8_11 s94_11 b_g1_11 b_g2_11 b_g3_11 d11 z11
    refine wp_cond_false (show a12.tmps.getD 107 undef = .bool false from s107_12) ?_
    refine wp_skip ?_
    refine wp_seq ?_
    refine wp_regx (SX W w12.heap.size [⟨g1, 60, (cR a b c d), none, #[]⟩, ⟨g2, 60, (cR p q r t), none, #[]⟩, ⟨g3, 95, (cU 0 0), some 2, (cU allR.u.lo allR.u.hi)⟩] []) (TabX [fun vx => vx = .agg #[.int .u64 allR.u.lo, .int .u64 allR.u.hi, .int .i64 allR.s.lo, .int .i64 allR.s.hi], fun vx => vx = .agg #[.int .u64 allR.u.lo, .int .u64 allR.u.hi], fun _ => True]) (by kernel_rfl) (back_of (by kernel_rfl)) (dst_of (by kernel_rfl)) (in_ofz (by kernel_rfl) z12) (fun fl w1 hfl hw => SX.start' hw B12 hfl rfl ⟨b_g1_12, b_g2_12, b_g3_12, trivial⟩) ?h32 ?_
    case h32 =>
      intro ix ox ax wx fl ho hS hfi clo hsz hrest hdone hund
      have t6 := (hrest 6 (not_of (by kernel_rfl))).trans s6_12
      have hs : ax.tmps.size = 119 := hsz.trans z12
      have hi : ix < 3 := (Array.getElem?_eq_some_iff.1 ho).1
      clear hrest hsz hund
      obtain rfl | rfl | rfl : ix = 0 ∨ ix = 1 ∨ ix = 2 := by omega
      all_goals obtain rfl := Option.some.inj (show some _ = some ox from ho)
      ·
       refine wpOp_call (args := #[]) rfl rfl (exec_call rfl rfl rfl (args0 ) Try.func32 (by decide +kernel) rfl) ?_
       · refine (all_n wx).mono ?_
         rintro e w' ⟨rfl, b9⟩
         exact ⟨_, rfl, _, rfl, tab_put rfl hs rfl rfl, hS.quiet 0 rfl b9⟩
      ·
       have s117 : ax.tmps.getD 117 undef = .agg #[.int .u64 allR.u.lo, .int .u64 allR.u.hi, .int .i64 allR.s.lo, .int .i64 allR.s.hi] := (hdone 0 _ rfl rfl).2 _ rfl
       refine wpOp_call (args := #[.agg #[.int .u64 allR.u.lo, .int .u64 allR.u.hi, .int .i64 allR.s.lo, .int .i64 allR.s.hi]]) rfl rfl (exec_call rfl rfl rfl (args1 (show ax.eval (.tmp 117) = .agg #[.int .u64 allR.u.lo, .int .u64 allR.u.hi, .int .i64 allR.s.lo, .int .i64 allR.s.hi] from s117)) Try.func61 (by decide +kernel) rfl) ?_
       · refine (unsigned_n allR.u.lo allR.u.hi allR.s.lo allR.s.hi wx).mono ?_
         rintro e w' ⟨rfl, b9⟩
         exact ⟨_, rfl, _, rfl, tab_put rfl hs rfl rfl, hS.quiet 1 rfl b9⟩
      ·
       have s118 : ax.tmps.getD 118 undef = .agg #[.int .u64 allR.u.lo, .int .u64 allR.u.hi] := (hdone 0 _ rfl rfl).2 _ rfl
       have hr := hS.rowFi 2 rfl hfi
       exact wpOp_skp (w' := wx.setRow g3 #[.int .u64 allR.u.lo, .int .u64 allR.u.hi]) rfl rfl (exec_storeR 95 _ _ rfl g3 #[.int .u64 allR.u.lo, .int .u64 allR.u.hi] (show ax.eval (.tmp 6) = .pointer (some ⟨g3, 0, none⟩) from t6) (show ax.eval (.tmp 118) = .agg #[.int .u64 allR.u.lo, .int .u64 allR.u.hi] from s118) hr (by kernel_rfl) rfl (by simp [Value.oneCell'])) ⟨undef, rfl, trivial, hS.storeBi 2 2 rfl q_g3 rfl ⟨(show g1 ≠ g3 by omega), (show g2 ≠ g3 by omega), trivial⟩ (stored_setRow wx g3 _ _ _ hr)⟩
    intro a13 w13 fl d13 z13 rest13 R13 hfl hS
    obtain ⟨B13, n13, hBs, hAs, hPs⟩ := hS.finish hfl rfl
    replace d13 := d13.trans d12
    replace z13 := z13.trans z12
    obtain ⟨⟨-, b_g1_13⟩, ⟨-, b_g2_13⟩, ⟨-, b_g3_13⟩, -⟩ := hBs
    have s6_13 := (rest13 6 (not_of (by kernel_rfl))).trans s6_12
    clear R13 rest13 hS hfl hPs hAs
    clear s4_12 s6_12 s7_12 s107_12 b_g1_12 b_g2_12 b_g3_12 d12 z12
    refine wp_ret ?_
    try simp only [Exit.inBlock, Exit.then]
    refine bodyPost_ret (res_c (fn := Try.f92) rfl s6_13 (load_row 95 b_g3_13 Try.underlying95 rfl (by kernel_rfl))) d13 ?_
    have no5 := nb Ffk2.out
    have no4 := nb Ffk3.out
    have no10 := nb Ffk4.out
    have no3 := nb Ffk5.out
    have no9 := nb Ffk7.out
    have no7 := nb Ffk9.out
    have ho : op = 6 := yb Ffk10.out
    have HE : restU op ⟨⟨a, b⟩, ⟨c, d⟩⟩ ⟨⟨p, q⟩, ⟨r, t⟩⟩ = ⟨allR.u.lo, allR.u.hi⟩ := by
      unfold restU
      rw [if_neg no5, if_neg no4, if_neg no10, if_neg no3, if_neg no9, if_neg no7]
      rw [if_pos ho]
      rw [if_neg (by rw [Ffk1.out, Bool.false_and]; exact Bool.false_ne_true)]
      try rfl
    have HE2 : (.agg #[.int .u64 allR.u.lo, .int .u64 allR.u.hi] : Value) = .agg #[.int .u64 (restU op ⟨⟨a, b⟩, ⟨c, d⟩⟩ ⟨⟨p, q⟩, ⟨r, t⟩⟩).lo, .int .u64 (restU op ⟨⟨a, b⟩, ⟨c, d⟩⟩ ⟨⟨p, q⟩, ⟨r, t⟩⟩).hi] := by rw [HE]
    exact ⟨retV HE2, B13⟩
   have Ffk10 := Lib.hid fk10; clear fk10
   refine wp_regx (SX W w10.heap.size [⟨g1, 60, (cR a b c d), none, #[]⟩, ⟨g2, 60, (cR p q r t), none, #[]⟩, ⟨g3, 95, (cU 0 0), none, #[]⟩] []) (TabX [fun vx => vx = .bool false, fun vx => vx = .bool false]) (by kernel_rfl) (back_of (by kernel_rfl)) (dst_of (by kernel_rfl)) (in_ofz (by kernel_rfl) z10) (fun fl w1 hfl hw => SX.start' hw B10 hfl rfl ⟨b_g1_10, b_g2_10, b_g3_10, trivial⟩) ?h33 ?_
   case h33 =>
     intro ix ox ax wx fl ho hS hfi clo hsz hrest hdone hund
     have t16 := (hrest 16 (not_of (by kernel_rfl))).trans s16_10
     have hs : ax.tmps.size = 119 := hsz.trans z10
     have hi : ix < 2 := (Array.getElem?_eq_some_iff.1 ho).1
     clear hrest hsz hund
     obtain rfl | rfl : ix = 0 ∨ ix = 1 := by omega
     all_goals obtain rfl := Option.some.inj (show some _ = some ox from ho)
     ·
      exact wpOp_val (v := .bool (op == 6)) (w' := wx) rfl rfl (by (simp [execOp, Act.eval, t16, go_sem]; try (simp only [IntKind.wrap_i64, wrap64]))) ⟨_, rfl, tab_put rfl hs rfl (congrArg Value.bool Ffk10.out), hS.same 0 rfl⟩
     ·
      have s95 : ax.tmps.getD 95 undef = .bool false := (hdone 0 _ rfl rfl).2 _ rfl
      exact wpOp_val (v := .bool false) (w' := wx) rfl rfl (by simp [execOp, Act.eval, s95]) ⟨_, rfl, tab_put rfl hs rfl rfl, hS.same 1 rfl⟩
   intro a11 w11 fl d11 z11 rest11 R11 hfl hS
   obtain ⟨B11, n11, hBs, hAs, hPs⟩ := hS.finish hfl rfl
   replace d11 := d11.trans d10
   replace z11 := z11.trans z10
   obtain ⟨⟨-, b_g1_11⟩, ⟨-, b_g2_11⟩, ⟨-, b_g3_11⟩, -⟩ := hBs
   have s4_11 := (rest11 4 (not_of (by kernel_rfl))).trans s4_10
   have s6_11 := (rest11 6 (not_of (by kernel_rfl))).trans s6_10
   have s7_11 := (rest11 7 (not_of (by kernel_rfl))).trans s7_10
   have s8_11 := (rest11 8 (not_of (by kernel_rfl))).trans s8_10
   have s94_11 : a11.tmps.getD 94 undef = .bool false := R11 1 _ rfl
   clear R11 rest11 hS hfl hPs hAs
   clear s4_10 s6_10 s7_10 s8_10 s16_10 s82_10 b_g1_10 b_g2_10 b_g3_10 d10 z10
   refine wp_cond_false (show a11.tmps.getD 94 undef = .bool false from s94_11) ?_
   refine wp_skip ?_
   refine wp_seq ?_
   refine wp_regx (SX W w11.heap.size [⟨g1, 60, (cR a b c d), none, #[]⟩, ⟨g2, 60, (cR p q r t), none, #[]⟩, ⟨g3, 95, (cU 0 0), some 2, (cU allR.u.lo allR.u.hi)⟩] []) (TabX [fun vx => vx = .agg #[.int .u64 allR.u.lo, .int .u64 allR.u.hi, .int .i64 allR.s.lo, .int .i64 allR.s.hi], fun vx => vx = .agg #[.int .u64 allR.u.lo, .int .u64 allR.u.hi], fun _ => True]) (by kernel_rfl) (back_of (by kernel_rfl)) (dst_of (by kernel_rfl)) (in_ofz (by kernel_rfl) z11) (fun fl w1 hfl hw => SX.start' hw B11 hfl rfl ⟨b_g1_11, b_g2_11, b_g3_11, trivial⟩) ?h34 ?_
   case h34 =>
     intro ix ox ax wx fl ho hS hfi clo hsz hrest hdone hund
     have t6 := (hrest 6 (not_of (by kernel_rfl))).trans s6_11
     have hs : ax.tmps.size = 119 := hsz.trans z11
     have hi : ix < 3 := (Array.getElem?_eq_some_iff.1 ho).1
     clear hrest hsz hund
     obtain rfl | rfl | rfl : ix = 0 ∨ ix = 1 ∨ ix = 2 := by omega
     all_goals obtain rfl := Option.some.inj (show some _ = some ox from ho)
     ·
      refine wpOp_call (args := #[]) rfl rfl (exec_call rfl rfl rfl (args0 ) Try.func32 (by decide +kernel) rfl) ?_
      · refine (all_n wx).mono ?_
        rintro e w' ⟨rfl, b9⟩
        exact ⟨_, rfl, _, rfl, tab_put rfl hs rfl rfl, hS.quiet 0 rfl b9⟩
     ·
      have s117 : ax.tmps.getD 117 undef = .agg #[.int .u64 allR.u.lo, .int .u64 allR.u.hi, .int .i64 allR.s.lo, .int .i64 allR.s.hi] := (hdone 0 _ rfl rfl).2 _ rfl
      refine wpOp_call (args := #[.agg #[.int .u64 allR.u.lo, .int .u64 allR.u.hi, .int .i64 allR.s.lo, .int .i64 allR.s.hi]]) rfl rfl (exec_call rfl rfl rfl (args1 (show ax.eval (.tmp 117) = .agg #[.int .u64 allR.u.lo, .int .u64 allR.u.hi, .int .i64 allR.s.lo, .int .i64 allR.s.hi] from s117)) Try.func61 (by decide +kernel) rfl) ?_
      · refine (unsigned_n allR.u.lo allR.u.hi allR.s.lo allR.s.hi wx).mono ?_
        rintro e w' ⟨rfl, b9⟩
        exact ⟨_, rfl, _, rfl, tab_put rfl hs rfl rfl, hS.quiet 1 rfl b9⟩
     ·
      have s118 : ax.tmps.getD 118 undef = .agg #[.int .u64 allR.u.lo, .int .u64 allR.u.hi] := (hdone 0 _ rfl rfl).2 _ rfl
      have hr := hS.rowFi 2 rfl hfi
      exact wpOp_skp (w' := wx.setRow g3 #[.int .u64 allR.u.lo, .int .u64 allR.u.hi]) rfl rfl (exec_storeR 95 _ _ rfl g3 #[.int .u64 allR.u.lo, .int .u64 allR.u.hi] (show ax.eval (.tmp 6) = .pointer (some ⟨g3, 0, none⟩) from t6) (show ax.eval (.tmp 118) = .agg #[.int .u64 allR.u.lo, .int .u64 allR.u.hi] from s118) hr (by kernel_rfl) rfl (by simp [Value.oneCell'])) ⟨undef, rfl, trivial, hS.storeBi 2 2 rfl q_g3 rfl ⟨(show g1 ≠ g3 by omega), (show g2 ≠ g3 by omega), trivial⟩ (stored_setRow wx g3 _ _ _ hr)⟩
   intro a12 w12 fl d12 z12 rest12 R12 hfl hS
   obtain ⟨B12, n12, hBs, hAs, hPs⟩ := hS.finish hfl rfl
   replace d12 := d12.trans d11
   replace z12 := z12.trans z11
   obtain ⟨⟨-, b_g1_12⟩, ⟨-, b_g2_12⟩, ⟨-, b_g3_12⟩, -⟩ := hBs
   have s6_12 := (rest12 6 (not_of (by kernel_rfl))).trans s6_11
   clear R12 rest12 hS hfl hPs hAs
   clear s4_11 s6_11 s7_11 s8_11 s94_11 b_g1_11 b_g2_11 b_g3_11 d11 z11
   refine wp_ret ?_
   try simp only [Exit.inBlock, Exit.then]
   refine bodyPost_ret (res_c (fn := Try.f92) rfl s6_12 (load_row 95 b_g3_12 Try.underlying95 rfl (by kernel_rfl))) d12 ?_
   have no5 := nb Ffk2.out
   have no4 := nb Ffk3.out
   have no10 := nb Ffk4.out
   have no3 := nb Ffk5.out
   have no9 := nb Ffk7.out
   have no7 := nb Ffk9.out
   have no6 := nb Ffk10.out
   have HE : restU op ⟨⟨a, b⟩, ⟨c, d⟩⟩ ⟨⟨p, q⟩, ⟨r, t⟩⟩ = ⟨allR.u.lo, allR.u.hi⟩ := by
     unfold restU
     rw [if_neg no5, if_neg no4, if_neg no10, if_neg no3, if_neg no9, if_neg no7, if_neg no6]
     try rfl
   have HE2 : (.agg #[.int .u64 allR.u.lo, .int .u64 allR.u.hi] : Value) = .agg #[.int .u64 (restU op ⟨⟨a, b⟩, ⟨c, d⟩⟩ ⟨⟨p, q⟩, ⟨r, t⟩⟩).lo, .int .u64 (restU op ⟨⟨a, b⟩, ⟨c, d⟩⟩ ⟨⟨p, q⟩, ⟨r, t⟩⟩).hi] := by rw [HE]
   exact ⟨retV HE2, B12⟩
  have Ffk1 := Lib.hid fk1; clear fk1
  refine wp_regx (SX W w1.heap.size [⟨g1, 60, (cR a b c d), none, #[]⟩, ⟨g2, 60, (cR p q r t), none, #[]⟩, ⟨g3, 95, (cU 0 0), none, #[]⟩] []) (TabX [fun vx => vx = .agg #[.int .u64 p, .int .u64 q, .int .i64 r, .int .i64 t], fun vx => vx = .tuple #[.int .u64 (Rg.oneV ⟨⟨p, q⟩, ⟨r, t⟩⟩), .bool (Rg.oneB ⟨⟨p, q⟩, ⟨r, t⟩⟩)], fun vx => vx = .tuple #[.int .u64 (Rg.oneV ⟨⟨p, q⟩, ⟨r, t⟩⟩), .bool (Rg.oneB ⟨⟨p, q⟩, ⟨r, t⟩⟩)], fun vx => vx = .int .u64 (Rg.oneV ⟨⟨p, q⟩, ⟨r, t⟩⟩), fun vx => vx = .bool true, fun vx => vx = .int .u64 (Rg.oneV ⟨⟨p, q⟩, ⟨r, t⟩⟩), fun vx => vx = .bool true]) (by kernel_rfl) (back_of (by kernel_rfl)) (dst_of (by kernel_rfl)) (in_ofz (by kernel_rfl) z1) (fun fl w1 hfl hw => SX.start' hw B1 hfl rfl ⟨b_g1_1, b_g2_1, b_g3_1, trivial⟩) ?h35 ?_
  case h35 =>
    intro ix ox ax wx fl ho hS hfi clo hsz hrest hdone hund
    have t5 := (hrest 5 (not_of (by kernel_rfl))).trans u_g2
    have hs : ax.tmps.size = 119 := hsz.trans z1
    have hi : ix < 7 := (Array.getElem?_eq_some_iff.1 ho).1
    clear hrest hsz hund
    obtain rfl | rfl | rfl | rfl | rfl | rfl | rfl : ix = 0 ∨ ix = 1 ∨ ix = 2 ∨ ix = 3 ∨ ix = 4 ∨ ix = 5 ∨ ix = 6 := by omega
    all_goals obtain rfl := Option.some.inj (show some _ = some ox from ho)
    ·
     have hr := hS.rowNi 1 rfl
     exact wpOp_val (v := .agg #[.int .u64 p, .int .u64 q, .int .i64 r, .int .i64 t]) (w' := wx) rfl rfl (exec_loadR 60 _ rfl g2 0 (show ax.eval (.tmp 5) = .pointer (some ⟨g2, 0, none⟩) from t5) hr [.int .u64 p, .int .u64 q, .int .i64 r, .int .i64 t] rfl _ Try.underlying60 rfl (by kernel_rfl)) ⟨_, rfl, tab_put rfl hs rfl rfl, hS.same 0 rfl⟩
    ·
     have s10 : ax.tmps.getD 10 undef = .agg #[.int .u64 p, .int .u64 q, .int .i64 r, .int .i64 t] := (hdone 0 _ rfl rfl).2 _ rfl
     refine wpOp_call (args := #[.agg #[.int .u64 p, .int .u64 q, .int .i64 r, .int .i64 t]]) rfl rfl (exec_call rfl rfl rfl (args1 (show ax.eval (.tmp 10) = .agg #[.int .u64 p, .int .u64 q, .int .i64 r, .int .i64 t] from s10)) Try.func26 (by decide +kernel) rfl) ?_
     · refine (single_n p q r t wx).mono ?_
       rintro e w' ⟨rfl, b9⟩
       exact ⟨_, rfl, _, rfl, tab_put rfl hs rfl rfl, hS.quiet 1 rfl b9⟩
    ·
     have s11 : ax.tmps.getD 11 undef = .tuple #[.int .u64 (Rg.oneV ⟨⟨p, q⟩, ⟨r, t⟩⟩), .bool (Rg.oneB ⟨⟨p, q⟩, ⟨r, t⟩⟩)] := (hdone 0 _ rfl rfl).2 _ rfl
     exact wpOp_val (v := .tuple #[.int .u64 (Rg.oneV ⟨⟨p, q⟩, ⟨r, t⟩⟩), .bool (Rg.oneB ⟨⟨p, q⟩, ⟨r, t⟩⟩)]) (w' := wx) rfl rfl (by (revert s11; generalize (.tuple #[.int .u64 (Rg.oneV ⟨⟨p, q⟩, ⟨r, t⟩⟩), .bool (Rg.oneB ⟨⟨p, q⟩, ⟨r, t⟩⟩)] : Value) = y0; intro s11); simp [execOp, Act.eval, s11]) ⟨_, rfl, tab_put rfl hs rfl rfl, hS.same 2 rfl⟩
    ·
     have s9 : ax.tmps.getD 9 undef = .tuple #[.int .u64 (Rg.oneV ⟨⟨p, q⟩, ⟨r, t⟩⟩), .bool (Rg.oneB ⟨⟨p, q⟩, ⟨r, t⟩⟩)] := (hdone 0 _ rfl rfl).2 _ rfl
     exact wpOp_val (v := .int .u64 (Rg.oneV ⟨⟨p, q⟩, ⟨r, t⟩⟩)) (w' := wx) rfl rfl (by simp [execOp, Act.eval, s9, go_sem]) ⟨_, rfl, tab_put rfl hs rfl rfl, hS.same 3 rfl⟩
    ·
     have s9 : ax.tmps.getD 9 undef = .tuple #[.int .u64 (Rg.oneV ⟨⟨p, q⟩, ⟨r, t⟩⟩), .bool (Rg.oneB ⟨⟨p, q⟩, ⟨r, t⟩⟩)] := (hdone 0 _ rfl rfl).2 _ rfl
     exact wpOp_val (v := .bool (Rg.oneB ⟨⟨p, q⟩, ⟨r, t⟩⟩)) (w' := wx) rfl rfl (by simp [execOp, Act.eval, s9, go_sem]) ⟨_, rfl, tab_put rfl hs rfl (congrArg Value.bool Ffk1.out), hS.same 4 rfl⟩
    ·
     have s12 : ax.tmps.getD 12 undef = .int .u64 (Rg.oneV ⟨⟨p, q⟩, ⟨r, t⟩⟩) := (hdone 0 _ rfl rfl).2 _ rfl
     exact wpOp_val (v := .int .u64 (Rg.oneV ⟨⟨p, q⟩, ⟨r, t⟩⟩)) (w' := wx) rfl rfl (by simp [execOp, Act.eval, s12]) ⟨_, rfl, tab_put rfl hs rfl rfl, hS.same 5 rfl⟩
    ·
     have s13 : ax.tmps.getD 13 undef = .bool true := (hdone 0 _ rfl rfl).2 _ rfl
     exact wpOp_val (v := .bool true) (w' := wx) rfl rfl (by simp [execOp, Act.eval, s13]) ⟨_, rfl, tab_put rfl hs rfl rfl, hS.same 6 rfl⟩
  intro a2 w2 fl d2 z2 rest2 R2 hfl hS
  obtain ⟨B2, n2, hBs, hAs, hPs⟩ := hS.finish hfl rfl
  replace d2 := d2.trans d1
  replace z2 := z2.trans z1
  obtain ⟨⟨l_g1_2, b_g1_2⟩, ⟨l_g2_2, b_g2_2⟩, ⟨l_g3_2, b_g3_2⟩, -⟩ := hBs
  replace l_g1_2 : g1 < w1.heap.size := l_g1_2
  replace l_g2_2 : g2 < w1.heap.size := l_g2_2
  replace l_g3_2 : g3 < w1.heap.size := l_g3_2
  have s0_2 := (rest2 0 (not_of (by kernel_rfl))).trans s0_1
  have s4_2 := (rest2 4 (not_of (by kernel_rfl))).trans u_g1
  have s5_2 := (rest2 5 (not_of (by kernel_rfl))).trans u_g2
  have s6_2 := (rest2 6 (not_of (by kernel_rfl))).trans u_g3
  have s7_2 : a2.tmps.getD 7 undef = .int .u64 (Rg.oneV ⟨⟨p, q⟩, ⟨r, t⟩⟩) := R2 5 _ rfl
  have s8_2 : a2.tmps.getD 8 undef = .bool true := R2 6 _ rfl
  clear R2 rest2 hS hfl hPs hAs
  clear u_g1 u_g2 u_g3 s0_1 b_g1_1 b_g2_1 b_g3_1 d1 z1
  refine wp_seq ?_
  refine wp_regx (SX W w2.heap.size [⟨g1, 60, (cR a b c d), none, #[]⟩, ⟨g2, 60, (cR p q r t), none, #[]⟩, ⟨g3, 95, (cU 0 0), none, #[]⟩] []) (TabX [fun vx => vx = .int .u64 (Rg.oneV ⟨⟨p, q⟩, ⟨r, t⟩⟩), fun vx => vx = .int .u64 ((Rg.oneV ⟨⟨p, q⟩, ⟨r, t⟩⟩) % 64), fun vx => vx = .int .u64 ((Rg.oneV ⟨⟨p, q⟩, ⟨r, t⟩⟩) % 64)]) (by kernel_rfl) (back_of (by kernel_rfl)) (dst_of (by kernel_rfl)) (in_ofz (by kernel_rfl) z2) (fun fl w1 hfl hw => SX.start' hw B2 hfl rfl ⟨b_g1_2, b_g2_2, b_g3_2, trivial⟩) ?h36 ?_
  case h36 =>
    intro ix ox ax wx fl ho hS hfi clo hsz hrest hdone hund
    have hs : ax.tmps.size = 119 := hsz.trans z2
    have hi : ix < 3 := (Array.getElem?_eq_some_iff.1 ho).1
    clear hrest hsz
    obtain rfl | rfl | rfl : ix = 0 ∨ ix = 1 ∨ ix = 2 := by omega
    all_goals obtain rfl := Option.some.inj (show some _ = some ox from ho)
    ·
     have s7 : ax.tmps.getD 7 undef = .int .u64 (Rg.oneV ⟨⟨p, q⟩, ⟨r, t⟩⟩) := (hund 2 _ 7 rfl rfl (not_yet clo hfi (by kernel_rfl))).trans s7_2
     exact wpOp_val (v := .int .u64 (Rg.oneV ⟨⟨p, q⟩, ⟨r, t⟩⟩)) (w' := wx) rfl rfl (by simp [execOp, Act.eval, s7]) ⟨_, rfl, tab_put rfl hs rfl rfl, hS.same 0 rfl⟩
    ·
     have s14 : ax.tmps.getD 14 undef = .int .u64 (Rg.oneV ⟨⟨p, q⟩, ⟨r, t⟩⟩) := (hdone 0 _ rfl rfl).2 _ rfl
     exact wpOp_val (v := .int .u64 ((Rg.oneV ⟨⟨p, q⟩, ⟨r, t⟩⟩) % 64)) (w' := wx) rfl rfl (exec_rem rfl (show ax.eval (.tmp 14) = .int .u64 (Rg.oneV ⟨⟨p, q⟩, ⟨r, t⟩⟩) from s14) rfl HV.out (by decide)) ⟨_, rfl, tab_put rfl hs rfl rfl, hS.same 1 rfl⟩
    ·
     have s15 : ax.tmps.getD 15 undef = .int .u64 ((Rg.oneV ⟨⟨p, q⟩, ⟨r, t⟩⟩) % 64) := (hdone 0 _ rfl rfl).2 _ rfl
     exact wpOp_val (v := .int .u64 ((Rg.oneV ⟨⟨p, q⟩, ⟨r, t⟩⟩) % 64)) (w' := wx) rfl rfl (by simp [execOp, Act.eval, s15]) ⟨_, rfl, tab_put rfl hs rfl rfl, hS.same 2 rfl⟩
  intro a3 w3 fl d3 z3 rest3 R3 hfl hS
  obtain ⟨B3, n3, hBs, hAs, hPs⟩ := hS.finish hfl rfl
  replace d3 := d3.trans d2
  replace z3 := z3.trans z2
  obtain ⟨⟨-, b_g1_3⟩, ⟨-, b_g2_3⟩, ⟨-, b_g3_3⟩, -⟩ := hBs
  have s0_3 := (rest3 0 (not_of (by kernel_rfl))).trans s0_2
  have s4_3 := (rest3 4 (not_of (by kernel_rfl))).trans s4_2
  have s5_3 := (rest3 5 (not_of (by kernel_rfl))).trans s5_2
  have s6_3 := (rest3 6 (not_of (by kernel_rfl))).trans s6_2
  have s7_3 : a3.tmps.getD 7 undef = .int .u64 ((Rg.oneV ⟨⟨p, q⟩, ⟨r, t⟩⟩) % 64) := R3 2 _ rfl
  have s8_3 := (rest3 8 (not_of (by kernel_rfl))).trans s8_2
  clear R3 rest3 hS hfl hPs hAs
  clear s0_2 s4_2 s5_2 s6_2 s7_2 s8_2 b_g1_2 b_g2_2 b_g3_2 d2 z2
  refine wp_seq ?_
  refine wp_seq ?_
  refine wp_regx (SX W w3.heap.size [⟨g1, 60, (cR a b c d), none, #[]⟩, ⟨g2, 60, (cR p q r t), none, #[]⟩, ⟨g3, 95, (cU 0 0), none, #[]⟩] []) (TabX [fun vx => vx = .int .i8 op]) (by kernel_rfl) (back_of (by kernel_rfl)) (dst_of (by kernel_rfl)) (in_ofz (by kernel_rfl) z3) (fun fl w1 hfl hw => SX.start' hw B3 hfl rfl ⟨b_g1_3, b_g2_3, b_g3_3, trivial⟩) ?h37 ?_
  case h37 =>
    intro ix ox ax wx fl ho hS hfi clo hsz hrest hdone hund
    have t0 := (hrest 0 (not_of (by kernel_rfl))).trans s0_3
    have hs : ax.tmps.size = 119 := hsz.trans z3
    have hi : ix < 1 := (Array.getElem?_eq_some_iff.1 ho).1
    clear hrest hsz hund
    obtain rfl : ix = 0 := by omega
    all_goals obtain rfl := Option.some.inj (show some _ = some ox from ho)
    ·
     exact wpOp_val (v := .int .i8 op) (w' := wx) rfl rfl (by simp [execOp, Act.eval, t0]) ⟨_, rfl, tab_put rfl hs rfl rfl, hS.same 0 rfl⟩
  intro a4 w4 fl d4 z4 rest4 R4 hfl hS
  obtain ⟨B4, n4, hBs, hAs, hPs⟩ := hS.finish hfl rfl
  replace d4 := d4.trans d3
  replace z4 := z4.trans z3
  obtain ⟨⟨-, b_g1_4⟩, ⟨-, b_g2_4⟩, ⟨-, b_g3_4⟩, -⟩ := hBs
  have s4_4 := (rest4 4 (not_of (by kernel_rfl))).trans s4_3
  have s5_4 := (rest4 5 (not_of (by kernel_rfl))).trans s5_3
  have s6_4 := (rest4 6 (not_of (by kernel_rfl))).trans s6_3
  have s7_4 := (rest4 7 (not_of (by kernel_rfl))).trans s7_3
  have s8_4 := (rest4 8 (not_of (by kernel_rfl))).trans s8_3
  have s16_4 : a4.tmps.getD 16 undef = .int .i8 op := R4 0 _ rfl
  clear R4 rest4 hS hfl hPs hAs
  clear s0_3 s4_3 s5_3 s6_3 s7_3 s8_3 b_g1_3 b_g2_3 b_g3_3 d3 z3
  refine wp_block ?_
  refine wp_seq ?_
  cases fk11 : op == 5
  case true =>
   have Ffk11 := Lib.hid fk11; clear fk11
   refine wp_regx (SX W w4.heap.size [⟨g1, 60, (cR a b c d), none, #[]⟩, ⟨g2, 60, (cR p q r t), none, #[]⟩, ⟨g3, 95, (cU 0 0), none, #[]⟩] []) (TabX [fun vx => vx = .bool true, fun vx => vx = .bool true]) (by kernel_rfl) (back_of (by kernel_rfl)) (dst_of (by kernel_rfl)) (in_ofz (by kernel_rfl) z4) (fun fl w1 hfl hw => SX.start' hw B4 hfl rfl ⟨b_g1_4, b_g2_4, b_g3_4, trivial⟩) ?h38 ?_
   case h38 =>
     intro ix ox ax wx fl ho hS hfi clo hsz hrest hdone hund
     have t16 := (hrest 16 (not_of (by kernel_rfl))).trans s16_4
     have hs : ax.tmps.size = 119 := hsz.trans z4
     have hi : ix < 2 := (Array.getElem?_eq_some_iff.1 ho).1
     clear hrest hsz hund
     obtain rfl | rfl : ix = 0 ∨ ix = 1 := by omega
     all_goals obtain rfl := Option.some.inj (show some _ = some ox from ho)
     ·
      exact wpOp_val (v := .bool (op == 5)) (w' := wx) rfl rfl (by (simp [execOp, Act.eval, t16, go_sem]; try (simp only [IntKind.wrap_i64, wrap64]))) ⟨_, rfl, tab_put rfl hs rfl (congrArg Value.bool Ffk11.out), hS.same 0 rfl⟩
     ·
      have s18 : ax.tmps.getD 18 undef = .bool true := (hdone 0 _ rfl rfl).2 _ rfl
      exact wpOp_val (v := .bool true) (w' := wx) rfl rfl (by simp [execOp, Act.eval, s18]) ⟨_, rfl, tab_put rfl hs rfl rfl, hS.same 1 rfl⟩
   intro a5 w5 fl d5 z5 rest5 R5 hfl hS
   obtain ⟨B5, n5, hBs, hAs, hPs⟩ := hS.finish hfl rfl
   replace d5 := d5.trans d4
   replace z5 := z5.trans z4
   obtain ⟨⟨-, b_g1_5⟩, ⟨-, b_g2_5⟩, ⟨-, b_g3_5⟩, -⟩ := hBs
   have s4_5 := (rest5 4 (not_of (by kernel_rfl))).trans s4_4
   have s5_5 := (rest5 5 (not_of (by kernel_rfl))).trans s5_4
   have s6_5 := (rest5 6 (not_of (by kernel_rfl))).trans s6_4
   have s7_5 := (rest5 7 (not_of (by kernel_rfl))).trans s7_4
   have s8_5 := (rest5 8 (not_of (by kernel_rfl))).trans s8_4
   have s16_5 := (rest5 16 (not_of (by kernel_rfl))).trans s16_4
   have s17_5 : a5.tmps.getD 17 undef = .bool true := R5 1 _ rfl
   clear R5 rest5 hS hfl hPs hAs
   clear s4_4 s5_4 s6_4 s7_4 s8_4 s16_4 b_g1_4 b_g2_4 b_g3_4 d4 z4
   refine wp_cond_true (show a5.tmps.getD 17 undef = .bool true from s17_5) ?_
   refine wp_seq ?_
   refine wp_regx (SX W w5.heap.size [⟨g1, 60, (cR a b c d), none, #[]⟩, ⟨g2, 60, (cR p q r t), none, #[]⟩, ⟨g3, 95, (cU 0 0), some 6, (cU 0 (min b q))⟩] []) (TabX [fun vx => vx = .pointer (some ⟨g1, 1, none⟩), fun vx => vx = .int .u64 b, fun vx => vx = .pointer (some ⟨g2, 1, none⟩), fun vx => vx = .int .u64 q, fun vx => vx = .int .u64 (min b q), fun vx => vx = .agg #[.int .u64 0, .int .u64 (min b q)], fun _ => True]) (by kernel_rfl) (back_of (by kernel_rfl)) (dst_of (by kernel_rfl)) (in_ofz (by kernel_rfl) z5) (fun fl w1 hfl hw => SX.start' hw B5 hfl rfl ⟨b_g1_5, b_g2_5, b_g3_5, trivial⟩) ?h39 ?_
   case h39 =>
     intro ix ox ax wx fl ho hS hfi clo hsz hrest hdone hund
     have t4 := (hrest 4 (not_of (by kernel_rfl))).trans s4_5
     have t5 := (hrest 5 (not_of (by kernel_rfl))).trans s5_5
     have t6 := (hrest 6 (not_of (by kernel_rfl))).trans s6_5
     have hs : ax.tmps.size = 119 := hsz.trans z5
     have hi : ix < 7 := (Array.getElem?_eq_some_iff.1 ho).1
     clear hrest hsz hund
     obtain rfl | rfl | rfl | rfl | rfl | rfl | rfl : ix = 0 ∨ ix = 1 ∨ ix = 2 ∨ ix = 3 ∨ ix = 4 ∨ ix = 5 ∨ ix = 6 := by omega
     all_goals obtain rfl := Option.some.inj (show some _ = some ox from ho)
     ·
      exact wpOp_val (v := .pointer (some ⟨g1, 1, none⟩)) (w' := wx) rfl rfl (by simp [execOp, Act.eval, t4, go_sem]) ⟨_, rfl, tab_put rfl hs rfl rfl, hS.same 0 rfl⟩
     ·
      have s19 : ax.tmps.getD 19 undef = .pointer (some ⟨g1, 1, none⟩) := (hdone 0 _ rfl rfl).2 _ rfl
      have hr := hS.rowNi 0 rfl
      have hc := exec_load1 (i := 1) hr (v := .int .u64 b) rfl
      exact wpOp_val (v := .int .u64 b) (w' := wx) rfl rfl (by simp [execOp, Act.eval, s19, hc, go_sem]) ⟨_, rfl, tab_put rfl hs rfl rfl, hS.same 1 rfl⟩
     ·
      exact wpOp_val (v := .pointer (some ⟨g2, 1, none⟩)) (w' := wx) rfl rfl (by simp [execOp, Act.eval, t5, go_sem]) ⟨_, rfl, tab_put rfl hs rfl rfl, hS.same 2 rfl⟩
     ·
      have s21 : ax.tmps.getD 21 undef = .pointer (some ⟨g2, 1, none⟩) := (hdone 0 _ rfl rfl).2 _ rfl
      have hr := hS.rowNi 1 rfl
      have hc := exec_load1 (i := 1) hr (v := .int .u64 q) rfl
      exact wpOp_val (v := .int .u64 q) (w' := wx) rfl rfl (by simp [execOp, Act.eval, s21, hc, go_sem]) ⟨_, rfl, tab_put rfl hs rfl rfl, hS.same 3 rfl⟩
     ·
      have s20 : ax.tmps.getD 20 undef = .int .u64 b := (hdone 0 _ rfl rfl).2 _ rfl
      have s22 : ax.tmps.getD 22 undef = .int .u64 q := (hdone 1 _ rfl rfl).2 _ rfl
      exact wpOp_val (v := .int .u64 (min b q)) (w' := wx) rfl rfl (by simp [execOp, Act.eval, s20, s22, go_sem]) ⟨_, rfl, tab_put rfl hs rfl rfl, hS.same 4 rfl⟩
     ·
      have s23 : ax.tmps.getD 23 undef = .int .u64 (min b q) := (hdone 0 _ rfl rfl).2 _ rfl
      refine wpOp_call (args := #[.int .u64 (min b q)]) rfl rfl (exec_call rfl rfl rfl (args1 (show ax.eval (.tmp 23) = .int .u64 (min b q) from s23)) Try.func81 (by decide +kernel) rfl) ?_
      · refine (upTo_n (min b q) wx).mono ?_
        rintro e w' ⟨rfl, b9⟩
        exact ⟨_, rfl, _, rfl, tab_put rfl hs rfl rfl, hS.quiet 5 rfl b9⟩
     ·
      have s24 : ax.tmps.getD 24 undef = .agg #[.int .u64 0, .int .u64 (min b q)] := (hdone 0 _ rfl rfl).2 _ rfl
      have hr := hS.rowFi 2 rfl hfi
      exact wpOp_skp (w' := wx.setRow g3 #[.int .u64 0, .int .u64 (min b q)]) rfl rfl (exec_storeR 95 _ _ rfl g3 #[.int .u64 0, .int .u64 (min b q)] (show ax.eval (.tmp 6) = .pointer (some ⟨g3, 0, none⟩) from t6) (show ax.eval (.tmp 24) = .agg #[.int .u64 0, .int .u64 (min b q)] from s24) hr (by kernel_rfl) rfl (by simp [Value.oneCell'])) ⟨undef, rfl, trivial, hS.storeBi 6 2 rfl q_g3 rfl ⟨(show g1 ≠ g3 by omega), (show g2 ≠ g3 by omega), trivial⟩ (stored_setRow wx g3 _ _ _ hr)⟩
   intro a6 w6 fl d6 z6 rest6 R6 hfl hS
   obtain ⟨B6, n6, hBs, hAs, hPs⟩ := hS.finish hfl rfl
   replace d6 := d6.trans d5
   replace z6 := z6.trans z5
   obtain ⟨⟨-, b_g1_6⟩, ⟨-, b_g2_6⟩, ⟨-, b_g3_6⟩, -⟩ := hBs
   have s6_6 := (rest6 6 (not_of (by kernel_rfl))).trans s6_5
   clear R6 rest6 hS hfl hPs hAs
   clear s4_5 s5_5 s6_5 s7_5 s8_5 s16_5 s17_5 b_g1_5 b_g2_5 b_g3_5 d5 z5
   refine wp_ret ?_
   try simp only [Exit.inBlock, Exit.then]
   refine bodyPost_ret (res_c (fn := Try.f92) rfl s6_6 (load_row 95 b_g3_6 Try.underlying95 rfl (by kernel_rfl))) d6 ?_
   have ho : op = 5 := yb Ffk11.out
   have HE : restU op ⟨⟨a, b⟩, ⟨c, d⟩⟩ ⟨⟨p, q⟩, ⟨r, t⟩⟩ = ⟨0, min b q⟩ := by
     unfold restU
     rw [if_pos ho]
     try rfl
   have HE2 : (.agg #[.int .u64 0, .int .u64 (min b q)] : Value) = .agg #[.int .u64 (restU op ⟨⟨a, b⟩, ⟨c, d⟩⟩ ⟨⟨p, q⟩, ⟨r, t⟩⟩).lo, .int .u64 (restU op ⟨⟨a, b⟩, ⟨c, d⟩⟩ ⟨⟨p, q⟩, ⟨r, t⟩⟩).hi] := by rw [HE]
   exact ⟨retV HE2, B6⟩
  have Ffk11 := Lib.hid fk11; clear fk11
  refine wp_regx (SX W w4.heap.size [⟨g1, 60, (cR a b c d), none, #[]⟩, ⟨g2, 60, (cR p q r t), none, #[]⟩, ⟨g3, 95, (cU 0 0), none, #[]⟩] []) (TabX [fun vx => vx = .bool false, fun vx => vx = .bool false]) (by kernel_rfl) (back_of (by kernel_rfl)) (dst_of (by kernel_rfl)) (in_ofz (by kernel_rfl) z4) (fun fl w1 hfl hw => SX.start' hw B4 hfl rfl ⟨b_g1_4, b_g2_4, b_g3_4, trivial⟩) ?h40 ?_
  case h40 =>
    intro ix ox ax wx fl ho hS hfi clo hsz hrest hdone hund
    have t16 := (hrest 16 (not_of (by kernel_rfl))).trans s16_4
    have hs : ax.tmps.size = 119 := hsz.trans z4
    have hi : ix < 2 := (Array.getElem?_eq_some_iff.1 ho).1
    clear hrest hsz hund
    obtain rfl | rfl : ix = 0 ∨ ix = 1 := by omega
    all_goals obtain rfl := Option.some.inj (show some _ = some ox from ho)
    ·
     exact wpOp_val (v := .bool (op == 5)) (w' := wx) rfl rfl (by (simp [execOp, Act.eval, t16, go_sem]; try (simp only [IntKind.wrap_i64, wrap64]))) ⟨_, rfl, tab_put rfl hs rfl (congrArg Value.bool Ffk11.out), hS.same 0 rfl⟩
    ·
     have s18 : ax.tmps.getD 18 undef = .bool false := (hdone 0 _ rfl rfl).2 _ rfl
     exact wpOp_val (v := .bool false) (w' := wx) rfl rfl (by simp [execOp, Act.eval, s18]) ⟨_, rfl, tab_put rfl hs rfl rfl, hS.same 1 rfl⟩
  intro a5 w5 fl d5 z5 rest5 R5 hfl hS
  obtain ⟨B5, n5, hBs, hAs, hPs⟩ := hS.finish hfl rfl
  replace d5 := d5.trans d4
  replace z5 := z5.trans z4
  obtain ⟨⟨-, b_g1_5⟩, ⟨-, b_g2_5⟩, ⟨-, b_g3_5⟩, -⟩ := hBs
  have s4_5 := (rest5 4 (not_of (by kernel_rfl))).trans s4_4
  have s5_5 := (rest5 5 (not_of (by kernel_rfl))).trans s5_4
  have s6_5 := (rest5 6 (not_of (by kernel_rfl))).trans s6_4
  have s7_5 := (rest5 7 (not_of (by kernel_rfl))).trans s7_4
  have s8_5 := (rest5 8 (not_of (by kernel_rfl))).trans s8_4
  have s16_5 := (rest5 16 (not_of (by kernel_rfl))).trans s16_4
  have s17_5 : a5.tmps.getD 17 undef = .bool false := R5 1 _ rfl
  clear R5 rest5 hS hfl hPs hAs
  clear s4_4 s5_4 s6_4 s7_4 s8_4 s16_4 b_g1_4 b_g2_4 b_g3_4 d4 z4
  refine wp_cond_false (show a5.tmps.getD 17 undef = .bool false from s17_5) ?_
  refine wp_seq ?_
  cases fk12 : op == 4
  case true =>
   have Ffk12 := Lib.hid fk12; clear fk12
   refine wp_regx (SX W w5.heap.size [⟨g1, 60, (cR a b c d), none, #[]⟩, ⟨g2, 60, (cR p q r t), none, #[]⟩, ⟨g3, 95, (cU 0 0), none, #[]⟩] []) (TabX [fun vx => vx = .bool true, fun vx => vx = .bool true]) (by kernel_rfl) (back_of (by kernel_rfl)) (dst_of (by kernel_rfl)) (in_ofz (by kernel_rfl) z5) (fun fl w1 hfl hw => SX.start' hw B5 hfl rfl ⟨b_g1_5, b_g2_5, b_g3_5, trivial⟩) ?h41 ?_
   case h41 =>
     intro ix ox ax wx fl ho hS hfi clo hsz hrest hdone hund
     have t16 := (hrest 16 (not_of (by kernel_rfl))).trans s16_5
     have hs : ax.tmps.size = 119 := hsz.trans z5
     have hi : ix < 2 := (Array.getElem?_eq_some_iff.1 ho).1
     clear hrest hsz hund
     obtain rfl | rfl : ix = 0 ∨ ix = 1 := by omega
     all_goals obtain rfl := Option.some.inj (show some _ = some ox from ho)
     ·
      exact wpOp_val (v := .bool (op == 4)) (w' := wx) rfl rfl (by (simp [execOp, Act.eval, t16, go_sem]; try (simp only [IntKind.wrap_i64, wrap64]))) ⟨_, rfl, tab_put rfl hs rfl (congrArg Value.bool Ffk12.out), hS.same 0 rfl⟩
     ·
      have s26 : ax.tmps.getD 26 undef = .bool true := (hdone 0 _ rfl rfl).2 _ rfl
      exact wpOp_val (v := .bool true) (w' := wx) rfl rfl (by simp [execOp, Act.eval, s26]) ⟨_, rfl, tab_put rfl hs rfl rfl, hS.same 1 rfl⟩
   intro a6 w6 fl d6 z6 rest6 R6 hfl hS
   obtain ⟨B6, n6, hBs, hAs, hPs⟩ := hS.finish hfl rfl
   replace d6 := d6.trans d5
   replace z6 := z6.trans z5
   obtain ⟨⟨-, b_g1_6⟩, ⟨-, b_g2_6⟩, ⟨-, b_g3_6⟩, -⟩ := hBs
   have s4_6 := (rest6 4 (not_of (by kernel_rfl))).trans s4_5
   have s5_6 := (rest6 5 (not_of (by kernel_rfl))).trans s5_5
   have s6_6 := (rest6 6 (not_of (by kernel_rfl))).trans s6_5
   have s7_6 := (rest6 7 (not_of (by kernel_rfl))).trans s7_5
   have s8_6 := (rest6 8 (not_of (by kernel_rfl))).trans s8_5
   have s16_6 := (rest6 16 (not_of (by kernel_rfl))).trans s16_5
   have s25_6 : a6.tmps.getD 25 undef = .bool true := R6 1 _ rfl
   clear R6 rest6 hS hfl hPs hAs
   clear s4_5 s5_5 s6_5 s7_5 s8_5 s16_5 s17_5 b_g1_5 b_g2_5 b_g3_5 d5 z5
   refine wp_cond_true (show a6.tmps.getD 25 undef = .bool true from s25_6) ?_
   refine wp_seq ?_
   refine wp_regx (SX W w6.heap.size [⟨g1, 60, (cR a b c d), none, #[]⟩, ⟨g2, 60, (cR p q r t), none, #[]⟩, ⟨g3, 95, (cU 0 0), some 12, (cU (max a p) (onesI (Int.toNat (bits .or .u64 b q))))⟩] []) (TabX [fun vx => vx = .pointer (some ⟨g1, 0, none⟩), fun vx => vx = .int .u64 a, fun vx => vx = .pointer (some ⟨g2, 0, none⟩), fun vx => vx = .int .u64 p, fun vx => vx = .int .u64 (max a p), fun vx => vx = .pointer (some ⟨g1, 1, none⟩), fun vx => vx = .int .u64 b, fun vx => vx = .pointer (some ⟨g2, 1, none⟩), fun vx => vx = .int .u64 q, fun vx => vx = .int .u64 (bits .or .u64 b q), fun vx => vx = .int .u64 (onesI (Int.toNat (bits .or .u64 b q))), fun vx => vx = .agg #[.int .u64 (max a p), .int .u64 (onesI (Int.toNat (bits .or .u64 b q)))], fun _ => True]) (by kernel_rfl) (back_of (by kernel_rfl)) (dst_of (by kernel_rfl)) (in_ofz (by kernel_rfl) z6) (fun fl w1 hfl hw => SX.start' hw B6 hfl rfl ⟨b_g1_6, b_g2_6, b_g3_6, trivial⟩) ?h42 ?_
   case h42 =>
     intro ix ox ax wx fl ho hS hfi clo hsz hrest hdone hund
     have t4 := (hrest 4 (not_of (by kernel_rfl))).trans s4_6
     have t5 := (hrest 5 (not_of (by kernel_rfl))).trans s5_6
     have t6 := (hrest 6 (not_of (by kernel_rfl))).trans s6_6
     have hs : ax.tmps.size = 119 := hsz.trans z6
     have hi : ix < 13 := (Array.getElem?_eq_some_iff.1 ho).1
     clear hrest hsz hund
     obtain rfl | rfl | rfl | rfl | rfl | rfl | rfl | rfl | rfl | rfl | rfl | rfl | rfl : ix = 0 ∨ ix = 1 ∨ ix = 2 ∨ ix = 3 ∨ ix = 4 ∨ ix = 5 ∨ ix = 6 ∨ ix = 7 ∨ ix = 8 ∨ ix = 9 ∨ ix = 10 ∨ ix = 11 ∨ ix = 12 := by omega
     all_goals obtain rfl := Option.some.inj (show some _ = some ox from ho)
     ·
      exact wpOp_val (v := .pointer (some ⟨g1, 0, none⟩)) (w' := wx) rfl rfl (by simp [execOp, Act.eval, t4, go_sem]) ⟨_, rfl, tab_put rfl hs rfl rfl, hS.same 0 rfl⟩
     ·
      have s27 : ax.tmps.getD 27 undef = .pointer (some ⟨g1, 0, none⟩) := (hdone 0 _ rfl rfl).2 _ rfl
      have hr := hS.rowNi 0 rfl
      have hc := exec_load1 (i := 0) hr (v := .int .u64 a) rfl
      exact wpOp_val (v := .int .u64 a) (w' := wx) rfl rfl (by simp [execOp, Act.eval, s27, hc, go_sem]) ⟨_, rfl, tab_put rfl hs rfl rfl, hS.same 1 rfl⟩
     ·
      exact wpOp_val (v := .pointer (some ⟨g2, 0, none⟩)) (w' := wx) rfl rfl (by simp [execOp, Act.eval, t5, go_sem]) ⟨_, rfl, tab_put rfl hs rfl rfl, hS.same 2 rfl⟩
     ·
      have s29 : ax.tmps.getD 29 undef = .pointer (some ⟨g2, 0, none⟩) := (hdone 0 _ rfl rfl).2 _ rfl
      have hr := hS.rowNi 1 rfl
      have hc := exec_load1 (i := 0) hr (v := .int .u64 p) rfl
      exact wpOp_val (v := .int .u64 p) (w' := wx) rfl rfl (by simp [execOp, Act.eval, s29, hc, go_sem]) ⟨_, rfl, tab_put rfl hs rfl rfl, hS.same 3 rfl⟩
     ·
      have s28 : ax.tmps.getD 28 undef = .int .u64 a := (hdone 0 _ rfl rfl).2 _ rfl
      have s30 : ax.tmps.getD 30 undef = .int .u64 p := (hdone 1 _ rfl rfl).2 _ rfl
      exact wpOp_val (v := .int .u64 (max a p)) (w' := wx) rfl rfl (by simp [execOp, Act.eval, s28, s30, go_sem]) ⟨_, rfl, tab_put rfl hs rfl rfl, hS.same 4 rfl⟩
     ·
      exact wpOp_val (v := .pointer (some ⟨g1, 1, none⟩)) (w' := wx) rfl rfl (by simp [execOp, Act.eval, t4, go_sem]) ⟨_, rfl, tab_put rfl hs rfl rfl, hS.same 5 rfl⟩
     ·
      have s32 : ax.tmps.getD 32 undef = .pointer (some ⟨g1, 1, none⟩) := (hdone 0 _ rfl rfl).2 _ rfl
      have hr := hS.rowNi 0 rfl
      have hc := exec_load1 (i := 1) hr (v := .int .u64 b) rfl
      exact wpOp_val (v := .int .u64 b) (w' := wx) rfl rfl (by simp [execOp, Act.eval, s32, hc, go_sem]) ⟨_, rfl, tab_put rfl hs rfl rfl, hS.same 6 rfl⟩
     ·
      exact wpOp_val (v := .pointer (some ⟨g2, 1, none⟩)) (w' := wx) rfl rfl (by simp [execOp, Act.eval, t5, go_sem]) ⟨_, rfl, tab_put rfl hs rfl rfl, hS.same 7 rfl⟩
     ·
      have s34 : ax.tmps.getD 34 undef = .pointer (some ⟨g2, 1, none⟩) := (hdone 0 _ rfl rfl).2 _ rfl
      have hr := hS.rowNi 1 rfl
      have hc := exec_load1 (i := 1) hr (v := .int .u64 q) rfl
      exact wpOp_val (v := .int .u64 q) (w' := wx) rfl rfl (by simp [execOp, Act.eval, s34, hc, go_sem]) ⟨_, rfl, tab_put rfl hs rfl rfl, hS.same 8 rfl⟩
     ·
      have s33 : ax.tmps.getD 33 undef = .int .u64 b := (hdone 0 _ rfl rfl).2 _ rfl
      have s35 : ax.tmps.getD 35 undef = .int .u64 q := (hdone 1 _ rfl rfl).2 _ rfl
      exact wpOp_val (v := .int .u64 (bits .or .u64 b q)) (w' := wx) rfl rfl (by (simp [execOp, Act.eval, s33, s35, go_sem]; try (simp only [IntKind.wrap_i64, wrap64]))) ⟨_, rfl, tab_put rfl hs rfl rfl, hS.same 9 rfl⟩
     ·
      have s36 : ax.tmps.getD 36 undef = .int .u64 (bits .or .u64 b q) := (hdone 0 _ rfl rfl).2 _ rfl
      refine wpOp_call (args := #[.int .u64 (bits .or .u64 b q)]) rfl rfl (exec_call rfl rfl rfl (args1 (show ax.eval (.tmp 36) = .int .u64 (bits .or .u64 b q) from s36)) Try.func130 (by decide +kernel) rfl) ?_
      · refine (ones_n (bits .or .u64 b q) wx HR.out.1 HR.out.2).mono ?_
        rintro e w' ⟨rfl, b9⟩
        exact ⟨_, rfl, _, rfl, tab_put rfl hs rfl rfl, hS.quiet 10 rfl b9⟩
     ·
      have s31 : ax.tmps.getD 31 undef = .int .u64 (max a p) := (hdone 0 _ rfl rfl).2 _ rfl
      have s37 : ax.tmps.getD 37 undef = .int .u64 (onesI (Int.toNat (bits .or .u64 b q))) := (hdone 1 _ rfl rfl).2 _ rfl
      exact wpOp_val (v := .agg #[.int .u64 (max a p), .int .u64 (onesI (Int.toNat (bits .or .u64 b q)))]) (w' := wx) rfl rfl (exec_build rfl (parts2 (show ax.eval (.tmp 31) = .int .u64 (max a p) from s31) (show ax.eval (.tmp 37) = .int .u64 (onesI (Int.toNat (bits .or .u64 b q))) from s37)) (by kernel_rfl)) ⟨_, rfl, tab_put rfl hs rfl rfl, hS.same 11 rfl⟩
     ·
      have s38 : ax.tmps.getD 38 undef = .agg #[.int .u64 (max a p), .int .u64 (onesI (Int.toNat (bits .or .u64 b q)))] := (hdone 0 _ rfl rfl).2 _ rfl
      have hr := hS.rowFi 2 rfl hfi
      exact wpOp_skp (w' := wx.setRow g3 #[.int .u64 (max a p), .int .u64 (onesI (Int.toNat (bits .or .u64 b q)))]) rfl rfl (exec_storeR 95 _ _ rfl g3 #[.int .u64 (max a p), .int .u64 (onesI (Int.toNat (bits .or .u64 b q)))] (show ax.eval (.tmp 6) = .pointer (some ⟨g3, 0, none⟩) from t6) (show ax.eval (.tmp 38) = .agg #[.int .u64 (max a p), .int .u64 (onesI (Int.toNat (bits .or .u64 b q)))] from s38) hr (by kernel_rfl) rfl (by simp [Value.oneCell'])) ⟨undef, rfl, trivial, hS.storeBi 12 2 rfl q_g3 rfl ⟨(show g1 ≠ g3 by omega), (show g2 ≠ g3 by omega), trivial⟩ (stored_setRow wx g3 _ _ _ hr)⟩
   intro a7 w7 fl d7 z7 rest7 R7 hfl hS
   obtain ⟨B7, n7, hBs, hAs, hPs⟩ := hS.finish hfl rfl
   replace d7 := d7.trans d6
   replace z7 := z7.trans z6
   obtain ⟨⟨-, b_g1_7⟩, ⟨-, b_g2_7⟩, ⟨-, b_g3_7⟩, -⟩ := hBs
   have s6_7 := (rest7 6 (not_of (by kernel_rfl))).trans s6_6
   clear R7 rest7 hS hfl hPs hAs
   clear s4_6 s5_6 s6_6 s7_6 s8_6 s16_6 s25_6 b_g1_6 b_g2_6 b_g3_6 d6 z6
   refine wp_ret ?_
   try simp only [Exit.inBlock, Exit.then]
   refine bodyPost_ret (res_c (fn := Try.f92) rfl s6_7 (load_row 95 b_g3_7 Try.underlying95 rfl (by kernel_rfl))) d7 ?_
   have no5 := nb Ffk11.out
   have ho : op = 4 := yb Ffk12.out
   have HE : restU op ⟨⟨a, b⟩, ⟨c, d⟩⟩ ⟨⟨p, q⟩, ⟨r, t⟩⟩ = ⟨max a p, onesI (Int.toNat (bits .or .u64 b q))⟩ := by
     unfold restU
     rw [if_neg no5]
     rw [if_pos ho]
     rw [← HR2.out]
     try rfl
   have HE2 : (.agg #[.int .u64 (max a p), .int .u64 (onesI (Int.toNat (bits .or .u64 b q)))] : Value) = .agg #[.int .u64 (restU op ⟨⟨a, b⟩, ⟨c, d⟩⟩ ⟨⟨p, q⟩, ⟨r, t⟩⟩).lo, .int .u64 (restU op ⟨⟨a, b⟩, ⟨c, d⟩⟩ ⟨⟨p, q⟩, ⟨r, t⟩⟩).hi] := by rw [HE]
   exact ⟨retV HE2, B7⟩
  have Ffk12 := Lib.hid fk12; clear fk12
  refine wp_regx (SX W w5.heap.size [⟨g1, 60, (cR a b c d), none, #[]⟩, ⟨g2, 60, (cR p q r t), none, #[]⟩, ⟨g3, 95, (cU 0 0), none, #[]⟩] []) (TabX [fun vx => vx = .bool false, fun vx => vx = .bool false]) (by kernel_rfl) (back_of (by kernel_rfl)) (dst_of (by kernel_rfl)) (in_ofz (by kernel_rfl) z5) (fun fl w1 hfl hw => SX.start' hw B5 hfl rfl ⟨b_g1_5, b_g2_5, b_g3_5, trivial⟩) ?h43 ?_
  case h43 =>
    intro ix ox ax wx fl ho hS hfi clo hsz hrest hdone hund
    have t16 := (hrest 16 (not_of (by kernel_rfl))).trans s16_5
    have hs : ax.tmps.size = 119 := hsz.trans z5
    have hi : ix < 2 := (Array.getElem?_eq_some_iff.1 ho).1
    clear hrest hsz hund
    obtain rfl | rfl : ix = 0 ∨ ix = 1 := by omega
    all_goals obtain rfl := Option.some.inj (show some _ = some ox from ho)
    ·
     exact wpOp_val (v := .bool (op == 4)) (w' := wx) rfl rfl (by (simp [execOp, Act.eval, t16, go_sem]; try (simp only [IntKind.wrap_i64, wrap64]))) ⟨_, rfl, tab_put rfl hs rfl (congrArg Value.bool Ffk12.out), hS.same 0 rfl⟩
    ·
     have s26 : ax.tmps.getD 26 undef = .bool false := (hdone 0 _ rfl rfl).2 _ rfl
     exact wpOp_val (v := .bool false) (w' := wx) rfl rfl (by simp [execOp, Act.eval, s26]) ⟨_, rfl, tab_put rfl hs rfl rfl, hS.same 1 rfl⟩
  intro a6 w6 fl d6 z6 rest6 R6 hfl hS
  obtain ⟨B6, n6, hBs, hAs, hPs⟩ := hS.finish hfl rfl
  replace d6 := d6.trans d5
  replace z6 := z6.trans z5
  obtain ⟨⟨-, b_g1_6⟩, ⟨-, b_g2_6⟩, ⟨-, b_g3_6⟩, -⟩ := hBs
  have s4_6 := (rest6 4 (not_of (by kernel_rfl))).trans s4_5
  have s5_6 := (rest6 5 (not_of (by kernel_rfl))).trans s5_5
  have s6_6 := (rest6 6 (not_of (by kernel_rfl))).trans s6_5
  have s7_6 := (rest6 7 (not_of (by kernel_rfl))).trans s7_5
  have s8_6 := (rest6 8 (not_of (by kernel_rfl))).trans s8_5
  have s16_6 := (rest6 16 (not_of (by kernel_rfl))).trans s16_5
  have s25_6 : a6.tmps.getD 25 undef = .bool false := R6 1 _ rfl
  clear R6 rest6 hS hfl hPs hAs
  clear s4_5 s5_5 s6_5 s7_5 s8_5 s16_5 s17_5 b_g1_5 b_g2_5 b_g3_5 d5 z5
  refine wp_cond_false (show a6.tmps.getD 25 undef = .bool false from s25_6) ?_
  refine wp_seq ?_
  cases fk13 : op == 10
  case true =>
   have Ffk13 := Lib.hid fk13; clear fk13
   refine wp_regx (SX W w6.heap.size [⟨g1, 60, (cR a b c d), none, #[]⟩, ⟨g2, 60, (cR p q r t), none, #[]⟩, ⟨g3, 95, (cU 0 0), none, #[]⟩] []) (TabX [fun vx => vx = .bool true, fun vx => vx = .bool true]) (by kernel_rfl) (back_of (by kernel_rfl)) (dst_of (by kernel_rfl)) (in_ofz (by kernel_rfl) z6) (fun fl w1 hfl hw => SX.start' hw B6 hfl rfl ⟨b_g1_6, b_g2_6, b_g3_6, trivial⟩) ?h44 ?_
   case h44 =>
     intro ix ox ax wx fl ho hS hfi clo hsz hrest hdone hund
     have t16 := (hrest 16 (not_of (by kernel_rfl))).trans s16_6
     have hs : ax.tmps.size = 119 := hsz.trans z6
     have hi : ix < 2 := (Array.getElem?_eq_some_iff.1 ho).1
     clear hrest hsz hund
     obtain rfl | rfl : ix = 0 ∨ ix = 1 := by omega
     all_goals obtain rfl := Option.some.inj (show some _ = some ox from ho)
     ·
      exact wpOp_val (v := .bool (op == 10)) (w' := wx) rfl rfl (by (simp [execOp, Act.eval, t16, go_sem]; try (simp only [IntKind.wrap_i64, wrap64]))) ⟨_, rfl, tab_put rfl hs rfl (congrArg Value.bool Ffk13.out), hS.same 0 rfl⟩
     ·
      have s40 : ax.tmps.getD 40 undef = .bool true := (hdone 0 _ rfl rfl).2 _ rfl
      exact wpOp_val (v := .bool true) (w' := wx) rfl rfl (by simp [execOp, Act.eval, s40]) ⟨_, rfl, tab_put rfl hs rfl rfl, hS.same 1 rfl⟩
   intro a7 w7 fl d7 z7 rest7 R7 hfl hS
   obtain ⟨B7, n7, hBs, hAs, hPs⟩ := hS.finish hfl rfl
   replace d7 := d7.trans d6
   replace z7 := z7.trans z6
   obtain ⟨⟨-, b_g1_7⟩, ⟨-, b_g2_7⟩, ⟨-, b_g3_7⟩, -⟩ := hBs
   have s4_7 := (rest7 4 (not_of (by kernel_rfl))).trans s4_6
   have s5_7 := (rest7 5 (not_of (by kernel_rfl))).trans s5_6
   have s6_7 := (rest7 6 (not_of (by kernel_rfl))).trans s6_6
   have s7_7 := (rest7 7 (not_of (by kernel_rfl))).trans s7_6
   have s8_7 := (rest7 8 (not_of (by kernel_rfl))).trans s8_6
   have s16_7 := (rest7 16 (not_of (by kernel_rfl))).trans s16_6
   have s39_7 : a7.tmps.getD 39 undef = .bool true := R7 1 _ rfl
   clear R7 rest7 hS hfl hPs hAs
   clear s4_6 s5_6 s6_6 s7_6 s8_6 s16_6 s25_6 b_g1_6 b_g2_6 b_g3_6 d6 z6
   refine wp_cond_true (show a7.tmps.getD 39 undef = .bool true from s39_7) ?_
   refine wp_seq ?_
   refine wp_regx (SX W w7.heap.size [⟨g1, 60, (cR a b c d), none, #[]⟩, ⟨g2, 60, (cR p q r t), none, #[]⟩, ⟨g3, 95, (cU 0 0), some 7, (cU 0 (onesI (Int.toNat (bits .or .u64 b q))))⟩] []) (TabX [fun vx => vx = .pointer (some ⟨g1, 1, none⟩), fun vx => vx = .int .u64 b, fun vx => vx = .pointer (some ⟨g2, 1, none⟩), fun vx => vx = .int .u64 q, fun vx => vx = .int .u64 (bits .or .u64 b q), fun vx => vx = .int .u64 (onesI (Int.toNat (bits .or .u64 b q))), fun vx => vx = .agg #[.int .u64 0, .int .u64 (onesI (Int.toNat (bits .or .u64 b q)))], fun _ => True]) (by kernel_rfl) (back_of (by kernel_rfl)) (dst_of (by kernel_rfl)) (in_ofz (by kernel_rfl) z7) (fun fl w1 hfl hw => SX.start' hw B7 hfl rfl ⟨b_g1_7, b_g2_7, b_g3_7, trivial⟩) ?h45 ?_
   case h45 =>
     intro ix ox ax wx fl ho hS hfi clo hsz hrest hdone hund
     have t4 := (hrest 4 (not_of (by kernel_rfl))).trans s4_7
     have t5 := (hrest 5 (not_of (by kernel_rfl))).trans s5_7
     have t6 := (hrest 6 (not_of (by kernel_rfl))).trans s6_7
     have hs : ax.tmps.size = 119 := hsz.trans z7
     have hi : ix < 8 := (Array.getElem?_eq_some_iff.1 ho).1
     clear hrest hsz hund
     obtain rfl | rfl | rfl | rfl | rfl | rfl | rfl | rfl : ix = 0 ∨ ix = 1 ∨ ix = 2 ∨ ix = 3 ∨ ix = 4 ∨ ix = 5 ∨ ix = 6 ∨ ix = 7 := by omega
     all_goals obtain rfl := Option.some.inj (show some _ = some ox from ho)
     ·
      exact wpOp_val (v := .pointer (some ⟨g1, 1, none⟩)) (w' := wx) rfl rfl (by simp [execOp, Act.eval, t4, go_sem]) ⟨_, rfl, tab_put rfl hs rfl rfl, hS.same 0 rfl⟩
     ·
      have s41 : ax.tmps.getD 41 undef = .pointer (some ⟨g1, 1, none⟩) := (hdone 0 _ rfl rfl).2 _ rfl
      have hr := hS.rowNi 0 rfl
      have hc := exec_load1 (i := 1) hr (v := .int .u64 b) rfl
      exact wpOp_val (v := .int .u64 b) (w' := wx) rfl rfl (by simp [execOp, Act.eval, s41, hc, go_sem]) ⟨_, rfl, tab_put rfl hs rfl rfl, hS.same 1 rfl⟩
     ·
      exact wpOp_val (v := .pointer (some ⟨g2, 1, none⟩)) (w' := wx) rfl rfl (by simp [execOp, Act.eval, t5, go_sem]) ⟨_, rfl, tab_put rfl hs rfl rfl, hS.same 2 rfl⟩
     ·
      have s43 : ax.tmps.getD 43 undef = .pointer (some ⟨g2, 1, none⟩) := (hdone 0 _ rfl rfl).2 _ rfl
      have hr := hS.rowNi 1 rfl
      have hc := exec_load1 (i := 1) hr (v := .int .u64 q) rfl
      exact wpOp_val (v := .int .u64 q) (w' := wx) rfl rfl (by simp [execOp, Act.eval, s43, hc, go_sem]) ⟨_, rfl, tab_put rfl hs rfl rfl, hS.same 3 rfl⟩
     ·
      have s42 : ax.tmps.getD 42 undef = .int .u64 b := (hdone 0 _ rfl rfl).2 _ rfl
      have s44 : ax.tmps.getD 44 undef = .int .u64 q := (hdone 1 _ rfl rfl).2 _ rfl
      exact wpOp_val (v := .int .u64 (bits .or .u64 b q)) (w' := wx) rfl rfl (by (simp [execOp, Act.eval, s42, s44, go_sem]; try (simp only [IntKind.wrap_i64, wrap64]))) ⟨_, rfl, tab_put rfl hs rfl rfl, hS.same 4 rfl⟩
     ·
      have s45 : ax.tmps.getD 45 undef = .int .u64 (bits .or .u64 b q) := (hdone 0 _ rfl rfl).2 _ rfl
      refine wpOp_call (args := #[.int .u64 (bits .or .u64 b q)]) rfl rfl (exec_call rfl rfl rfl (args1 (show ax.eval (.tmp 45) = .int .u64 (bits .or .u64 b q) from s45)) Try.func130 (by decide +kernel) rfl) ?_
      · refine (ones_n (bits .or .u64 b q) wx HR.out.1 HR.out.2).mono ?_
        rintro e w' ⟨rfl, b9⟩
        exact ⟨_, rfl, _, rfl, tab_put rfl hs rfl rfl, hS.quiet 5 rfl b9⟩
     ·
      have s46 : ax.tmps.getD 46 undef = .int .u64 (onesI (Int.toNat (bits .or .u64 b q))) := (hdone 0 _ rfl rfl).2 _ rfl
      refine wpOp_call (args := #[.int .u64 (onesI (Int.toNat (bits .or .u64 b q)))]) rfl rfl (exec_call rfl rfl rfl (args1 (show ax.eval (.tmp 46) = .int .u64 (onesI (Int.toNat (bits .or .u64 b q))) from s46)) Try.func81 (by decide +kernel) rfl) ?_
      · refine (upTo_n (onesI (Int.toNat (bits .or .u64 b q))) wx).mono ?_
        rintro e w' ⟨rfl, b9⟩
        exact ⟨_, rfl, _, rfl, tab_put rfl hs rfl rfl, hS.quiet 6 rfl b9⟩
     ·
      have s47 : ax.tmps.getD 47 undef = .agg #[.int .u64 0, .int .u64 (onesI (Int.toNat (bits .or .u64 b q)))] := (hdone 0 _ rfl rfl).2 _ rfl
      have hr := hS.rowFi 2 rfl hfi
      exact wpOp_skp (w' := wx.setRow g3 #[.int .u64 0, .int .u64 (onesI (Int.toNat (bits .or .u64 b q)))]) rfl rfl (exec_storeR 95 _ _ rfl g3 #[.int .u64 0, .int .u64 (onesI (Int.toNat (bits .or .u64 b q)))] (show ax.eval (.tmp 6) = .pointer (some ⟨g3, 0, none⟩) from t6) (show ax.eval (.tmp 47) = .agg #[.int .u64 0, .int .u64 (onesI (Int.toNat (bits .or .u64 b q)))] from s47) hr (by kernel_rfl) rfl (by simp [Value.oneCell'])) ⟨undef, rfl, trivial, hS.storeBi 7 2 rfl q_g3 rfl ⟨(show g1 ≠ g3 by omega), (show g2 ≠ g3 by omega), trivial⟩ (stored_setRow wx g3 _ _ _ hr)⟩
   intro a8 w8 fl d8 z8 rest8 R8 hfl hS
   obtain ⟨B8, n8, hBs, hAs, hPs⟩ := hS.finish hfl rfl
   replace d8 := d8.trans d7
   replace z8 := z8.trans z7
   obtain ⟨⟨-, b_g1_8⟩, ⟨-, b_g2_8⟩, ⟨-, b_g3_8⟩, -⟩ := hBs
   have s6_8 := (rest8 6 (not_of (by kernel_rfl))).trans s6_7
   clear R8 rest8 hS hfl hPs hAs
   clear s4_7 s5_7 s6_7 s7_7 s8_7 s16_7 s39_7 b_g1_7 b_g2_7 b_g3_7 d7 z7
   refine wp_ret ?_
   try simp only [Exit.inBlock, Exit.then]
   refine bodyPost_ret (res_c (fn := Try.f92) rfl s6_8 (load_row 95 b_g3_8 Try.underlying95 rfl (by kernel_rfl))) d8 ?_
   have no5 := nb Ffk11.out
   have no4 := nb Ffk12.out
   have ho : op = 10 := yb Ffk13.out
   have HE : restU op ⟨⟨a, b⟩, ⟨c, d⟩⟩ ⟨⟨p, q⟩, ⟨r, t⟩⟩ = ⟨0, onesI (Int.toNat (bits .or .u64 b q))⟩ := by
     unfold restU
     rw [if_neg no5, if_neg no4]
     rw [if_pos ho]
     rw [← HR2.out]
     try rfl
   have HE2 : (.agg #[.int .u64 0, .int .u64 (onesI (Int.toNat (bits .or .u64 b q)))] : Value) = .agg #[.int .u64 (restU op ⟨⟨a, b⟩, ⟨c, d⟩⟩ ⟨⟨p, q⟩, ⟨r, t⟩⟩).lo, .int .u64 (restU op ⟨⟨a, b⟩, ⟨c, d⟩⟩ ⟨⟨p, q⟩, ⟨r, t⟩⟩).hi] := by rw [HE]
   exact ⟨retV HE2, B8⟩
  have Ffk13 := Lib.hid fk13; clear fk13
  refine wp_regx (SX W w6.heap.size [⟨g1, 60, (cR a b c d), none, #[]⟩, ⟨g2, 60, (cR p q r t), none, #[]⟩, ⟨g3, 95, (cU 0 0), none, #[]⟩] []) (TabX [fun vx => vx = .bool false, fun vx => vx = .bool false]) (by kernel_rfl) (back_of (by kernel_rfl)) (dst_of (by kernel_rfl)) (in_ofz (by kernel_rfl) z6) (fun fl w1 hfl hw => SX.start' hw B6 hfl rfl ⟨b_g1_6, b_g2_6, b_g3_6, trivial⟩) ?h46 ?_
  case h46 =>
    intro ix ox ax wx fl ho hS hfi clo hsz hrest hdone hund
    have t16 := (hrest 16 (not_of (by kernel_rfl))).trans s16_6
    have hs : ax.tmps.size = 119 := hsz.trans z6
    have hi : ix < 2 := (Array.getElem?_eq_some_iff.1 ho).1
    clear hrest hsz hund
    obtain rfl | rfl : ix = 0 ∨ ix = 1 := by omega
    all_goals obtain rfl := Option.some.inj (show some _ = some ox from ho)
    ·
     exact wpOp_val (v := .bool (op == 10)) (w' := wx) rfl rfl (by (simp [execOp, Act.eval, t16, go_sem]; try (simp only [IntKind.wrap_i64, wrap64]))) ⟨_, rfl, tab_put rfl hs rfl (congrArg Value.bool Ffk13.out), hS.same 0 rfl⟩
    ·
     have s40 : ax.tmps.getD 40 undef = .bool false := (hdone 0 _ rfl rfl).2 _ rfl
     exact wpOp_val (v := .bool false) (w' := wx) rfl rfl (by simp [execOp, Act.eval, s40]) ⟨_, rfl, tab_put rfl hs rfl rfl, hS.same 1 rfl⟩
  intro a7 w7 fl d7 z7 rest7 R7 hfl hS
  obtain ⟨B7, n7, hBs, hAs, hPs⟩ := hS.finish hfl rfl
  replace d7 := d7.trans d6
  replace z7 := z7.trans z6
  obtain ⟨⟨-, b_g1_7⟩, ⟨-, b_g2_7⟩, ⟨-, b_g3_7⟩, -⟩ := hBs
  have s4_7 := (rest7 4 (not_of (by kernel_rfl))).trans s4_6
  have s5_7 := (rest7 5 (not_of (by kernel_rfl))).trans s5_6
  have s6_7 := (rest7 6 (not_of (by kernel_rfl))).trans s6_6
  have s7_7 := (rest7 7 (not_of (by kernel_rfl))).trans s7_6
  have s8_7 := (rest7 8 (not_of (by kernel_rfl))).trans s8_6
  have s16_7 := (rest7 16 (not_of (by kernel_rfl))).trans s16_6
  have s39_7 : a7.tmps.getD 39 undef = .bool false := R7 1 _ rfl
  clear R7 rest7 hS hfl hPs hAs
  clear s4_6 s5_6 s6_6 s7_6 s8_6 s16_6 s25_6 b_g1_6 b_g2_6 b_g3_6 d6 z6
  refine wp_cond_false (show a7.tmps.getD 39 undef = .bool false from s39_7) ?_
  refine wp_seq ?_
  cases fk14 : op == 3
  case true =>
   have Ffk14 := Lib.hid fk14; clear fk14
   refine wp_regx (SX W w7.heap.size [⟨g1, 60, (cR a b c d), none, #[]⟩, ⟨g2, 60, (cR p q r t), none, #[]⟩, ⟨g3, 95, (cU 0 0), none, #[]⟩] []) (TabX [fun vx => vx = .bool true, fun vx => vx = .bool true]) (by kernel_rfl) (back_of (by kernel_rfl)) (dst_of (by kernel_rfl)) (in_ofz (by kernel_rfl) z7) (fun fl w1 hfl hw => SX.start' hw B7 hfl rfl ⟨b_g1_7, b_g2_7, b_g3_7, trivial⟩) ?h47 ?_
   case h47 =>
     intro ix ox ax wx fl ho hS hfi clo hsz hrest hdone hund
     have t16 := (hrest 16 (not_of (by kernel_rfl))).trans s16_7
     have hs : ax.tmps.size = 119 := hsz.trans z7
     have hi : ix < 2 := (Array.getElem?_eq_some_iff.1 ho).1
     clear hrest hsz hund
     obtain rfl | rfl : ix = 0 ∨ ix = 1 := by omega
     all_goals obtain rfl := Option.some.inj (show some _ = some ox from ho)
     ·
      exact wpOp_val (v := .bool (op == 3)) (w' := wx) rfl rfl (by (simp [execOp, Act.eval, t16, go_sem]; try (simp only [IntKind.wrap_i64, wrap64]))) ⟨_, rfl, tab_put rfl hs rfl (congrArg Value.bool Ffk14.out), hS.same 0 rfl⟩
     ·
      have s49 : ax.tmps.getD 49 undef = .bool true := (hdone 0 _ rfl rfl).2 _ rfl
      exact wpOp_val (v := .bool true) (w' := wx) rfl rfl (by simp [execOp, Act.eval, s49]) ⟨_, rfl, tab_put rfl hs rfl rfl, hS.same 1 rfl⟩
   intro a8 w8 fl d8 z8 rest8 R8 hfl hS
   obtain ⟨B8, n8, hBs, hAs, hPs⟩ := hS.finish hfl rfl
   replace d8 := d8.trans d7
   replace z8 := z8.trans z7
   obtain ⟨⟨-, b_g1_8⟩, ⟨-, b_g2_8⟩, ⟨-, b_g3_8⟩, -⟩ := hBs
   have s4_8 := (rest8 4 (not_of (by kernel_rfl))).trans s4_7
   have s5_8 := (rest8 5 (not_of (by kernel_rfl))).trans s5_7
   have s6_8 := (rest8 6 (not_of (by kernel_rfl))).trans s6_7
   have s7_8 := (rest8 7 (not_of (by kernel_rfl))).trans s7_7
   have s8_8 := (rest8 8 (not_of (by kernel_rfl))).trans s8_7
   have s16_8 := (rest8 16 (not_of (by kernel_rfl))).trans s16_7
   have s48_8 : a8.tmps.getD 48 undef = .bool true := R8 1 _ rfl
   clear R8 rest8 hS hfl hPs hAs
   clear s4_7 s5_7 s6_7 s7_7 s8_7 s16_7 s39_7 b_g1_7 b_g2_7 b_g3_7 d7 z7
   refine wp_cond_true (show a8.tmps.getD 48 undef = .bool true from s48_8) ?_
   refine wp_seq ?_
   refine wp_seq ?_
   cases fk15 : p == 0
   case false =>
    have Ffk15 := Lib.hid fk15; clear fk15
    refine wp_regx (SX W w8.heap.size [⟨g1, 60, (cR a b c d), none, #[]⟩, ⟨g2, 60, (cR p q r t), none, #[]⟩, ⟨g3, 95, (cU 0 0), none, #[]⟩] []) (TabX [fun vx => vx = .pointer (some ⟨g2, 0, none⟩), fun vx => vx = .int .u64 p, fun vx => vx = .bool false]) (by kernel_rfl) (back_of (by kernel_rfl)) (dst_of (by kernel_rfl)) (in_ofz (by kernel_rfl) z8) (fun fl w1 hfl hw => SX.start' hw B8 hfl rfl ⟨b_g1_8, b_g2_8, b_g3_8, trivial⟩) ?h48 ?_
    case h48 =>
      intro ix ox ax wx fl ho hS hfi clo hsz hrest hdone hund
      have t5 := (hrest 5 (not_of (by kernel_rfl))).trans s5_8
      have hs : ax.tmps.size = 119 := hsz.trans z8
      have hi : ix < 3 := (Array.getElem?_eq_some_iff.1 ho).1
      clear hrest hsz hund
      obtain rfl | rfl | rfl : ix = 0 ∨ ix = 1 ∨ ix = 2 := by omega
      all_goals obtain rfl := Option.some.inj (show some _ = some ox from ho)
      ·
       exact wpOp_val (v := .pointer (some ⟨g2, 0, none⟩)) (w' := wx) rfl rfl (by simp [execOp, Act.eval, t5, go_sem]) ⟨_, rfl, tab_put rfl hs rfl rfl, hS.same 0 rfl⟩
      ·
       have s50 : ax.tmps.getD 50 undef = .pointer (some ⟨g2, 0, none⟩) := (hdone 0 _ rfl rfl).2 _ rfl
       have hr := hS.rowNi 1 rfl
       have hc := exec_load1 (i := 0) hr (v := .int .u64 p) rfl
       exact wpOp_val (v := .int .u64 p) (w' := wx) rfl rfl (by simp [execOp, Act.eval, s50, hc, go_sem]) ⟨_, rfl, tab_put rfl hs rfl rfl, hS.same 1 rfl⟩
      ·
       have s51 : ax.tmps.getD 51 undef = .int .u64 p := (hdone 0 _ rfl rfl).2 _ rfl
       exact wpOp_val (v := .bool (p == 0)) (w' := wx) rfl rfl (by (simp [execOp, Act.eval, s51, go_sem]; try (simp only [IntKind.wrap_i64, wrap64]))) ⟨_, rfl, tab_put rfl hs rfl (congrArg Value.bool Ffk15.out), hS.same 2 rfl⟩
    intro a9 w9 fl d9 z9 rest9 R9 hfl hS
    obtain ⟨B9, n9, hBs, hAs, hPs⟩ := hS.finish hfl rfl
    replace d9 := d9.trans d8
    replace z9 := z9.trans z8
    obtain ⟨⟨-, b_g1_9⟩, ⟨-, b_g2_9⟩, ⟨-, b_g3_9⟩, -⟩ := hBs
    have s4_9 := (rest9 4 (not_of (by kernel_rfl))).trans s4_8
    have s5_9 := (rest9 5 (not_of (by kernel_rfl))).trans s5_8
    have s6_9 := (rest9 6 (not_of (by kernel_rfl))).trans s6_8
    have s52_9 : a9.tmps.getD 52 undef = .bool false := R9 2 _ rfl
    clear R9 rest9 hS hfl hPs hAs
    clear s4_8 s5_8 s6_8 s7_8 s8_8 s16_8 s48_8 b_g1_8 b_g2_8 b_g3_8 d8 z8
    refine wp_cond_false (show a9.tmps.getD 52 undef = .bool false from s52_9) ?_
    refine wp_skip ?_
    refine wp_seq ?_
    refine wp_regx (SX W w9.heap.size [⟨g1, 60, (cR a b c d), none, #[]⟩, ⟨g2, 60, (cR p q r t), none, #[]⟩, ⟨g3, 95, (cU 0 0), some 11, (cU (a / q) (b / p))⟩] []) (TabX [fun vx => vx = .pointer (some ⟨g1, 0, none⟩), fun vx => vx = .int .u64 a, fun vx => vx = .pointer (some ⟨g2, 1, none⟩), fun vx => vx = .int .u64 q, fun vx => vx = .int .u64 (a / q), fun vx => vx = .pointer (some ⟨g1, 1, none⟩), fun vx => vx = .int .u64 b, fun vx => vx = .pointer (some ⟨g2, 0, none⟩), fun vx => vx = .int .u64 p, fun vx => vx = .int .u64 (b / p), fun vx => vx = .agg #[.int .u64 (a / q), .int .u64 (b / p)], fun _ => True]) (by kernel_rfl) (back_of (by kernel_rfl)) (dst_of (by kernel_rfl)) (in_ofz (by kernel_rfl) z9) (fun fl w1 hfl hw => SX.start' hw B9 hfl rfl ⟨b_g1_9, b_g2_9, b_g3_9, trivial⟩) ?h49 ?_
    case h49 =>
      intro ix ox ax wx fl ho hS hfi clo hsz hrest hdone hund
      have t4 := (hrest 4 (not_of (by kernel_rfl))).trans s4_9
      have t5 := (hrest 5 (not_of (by kernel_rfl))).trans s5_9
      have t6 := (hrest 6 (not_of (by kernel_rfl))).trans s6_9
      have hs : ax.tmps.size = 119 := hsz.trans z9
      have hi : ix < 12 := (Array.getElem?_eq_some_iff.1 ho).1
      clear hrest hsz hund
      obtain rfl | rfl | rfl | rfl | rfl | rfl | rfl | rfl | rfl | rfl | rfl | rfl : ix = 0 ∨ ix = 1 ∨ ix = 2 ∨ ix = 3 ∨ ix = 4 ∨ ix = 5 ∨ ix = 6 ∨ ix = 7 ∨ ix = 8 ∨ ix = 9 ∨ ix = 10 ∨ ix = 11 := by omega
      all_goals obtain rfl := Option.some.inj (show some _ = some ox from ho)
      ·
       exact wpOp_val (v := .pointer (some ⟨g1, 0, none⟩)) (w' := wx) rfl rfl (by simp [execOp, Act.eval, t4, go_sem]) ⟨_, rfl, tab_put rfl hs rfl rfl, hS.same 0 rfl⟩
      ·
       have s56 : ax.tmps.getD 56 undef = .pointer (some ⟨g1, 0, none⟩) := (hdone 0 _ rfl rfl).2 _ rfl
       have hr := hS.rowNi 0 rfl
       have hc := exec_load1 (i := 0) hr (v := .int .u64 a) rfl
       exact wpOp_val (v := .int .u64 a) (w' := wx) rfl rfl (by simp [execOp, Act.eval, s56, hc, go_sem]) ⟨_, rfl, tab_put rfl hs rfl rfl, hS.same 1 rfl⟩
      ·
       exact wpOp_val (v := .pointer (some ⟨g2, 1, none⟩)) (w' := wx) rfl rfl (by simp [execOp, Act.eval, t5, go_sem]) ⟨_, rfl, tab_put rfl hs rfl rfl, hS.same 2 rfl⟩
      ·
       have s58 : ax.tmps.getD 58 undef = .pointer (some ⟨g2, 1, none⟩) := (hdone 0 _ rfl rfl).2 _ rfl
       have hr := hS.rowNi 1 rfl
       have hc := exec_load1 (i := 1) hr (v := .int .u64 q) rfl
       exact wpOp_val (v := .int .u64 q) (w' := wx) rfl rfl (by simp [execOp, Act.eval, s58, hc, go_sem]) ⟨_, rfl, tab_put rfl hs rfl rfl, hS.same 3 rfl⟩
      ·
       have s57 : ax.tmps.getD 57 undef = .int .u64 a := (hdone 0 _ rfl rfl).2 _ rfl
       have s59 : ax.tmps.getD 59 undef = .int .u64 q := (hdone 1 _ rfl rfl).2 _ rfl
       exact wpOp_val (v := .int .u64 (a / q)) (w' := wx) rfl rfl (exec_quo rfl (show ax.eval (.tmp 57) = .int .u64 a from s57) (show ax.eval (.tmp 59) = .int .u64 q from s59) HO.out.1.1.1 (HD.out Ffk15.out).1 HO.out.1.1.2) ⟨_, rfl, tab_put rfl hs rfl rfl, hS.same 4 rfl⟩
      ·
       exact wpOp_val (v := .pointer (some ⟨g1, 1, none⟩)) (w' := wx) rfl rfl (by simp [execOp, Act.eval, t4, go_sem]) ⟨_, rfl, tab_put rfl hs rfl rfl, hS.same 5 rfl⟩
      ·
       have s61 : ax.tmps.getD 61 undef = .pointer (some ⟨g1, 1, none⟩) := (hdone 0 _ rfl rfl).2 _ rfl
       have hr := hS.rowNi 0 rfl
       have hc := exec_load1 (i := 1) hr (v := .int .u64 b) rfl
       exact wpOp_val (v := .int .u64 b) (w' := wx) rfl rfl (by simp [execOp, Act.eval, s61, hc, go_sem]) ⟨_, rfl, tab_put rfl hs rfl rfl, hS.same 6 rfl⟩
      ·
       exact wpOp_val (v := .pointer (some ⟨g2, 0, none⟩)) (w' := wx) rfl rfl (by simp [execOp, Act.eval, t5, go_sem]) ⟨_, rfl, tab_put rfl hs rfl rfl, hS.same 7 rfl⟩
      ·
       have s63 : ax.tmps.getD 63 undef = .pointer (some ⟨g2, 0, none⟩) := (hdone 0 _ rfl rfl).2 _ rfl
       have hr := hS.rowNi 1 rfl
       have hc := exec_load1 (i := 0) hr (v := .int .u64 p) rfl
       exact wpOp_val (v := .int .u64 p) (w' := wx) rfl rfl (by simp [execOp, Act.eval, s63, hc, go_sem]) ⟨_, rfl, tab_put rfl hs rfl rfl, hS.same 8 rfl⟩
      ·
       have s62 : ax.tmps.getD 62 undef = .int .u64 b := (hdone 0 _ rfl rfl).2 _ rfl
       have s64 : ax.tmps.getD 64 undef = .int .u64 p := (hdone 1 _ rfl rfl).2 _ rfl
       exact wpOp_val (v := .int .u64 (b / p)) (w' := wx) rfl rfl (exec_quo rfl (show ax.eval (.tmp 62) = .int .u64 b from s62) (show ax.eval (.tmp 64) = .int .u64 p from s64) HO.out.1.2.1 (HD.out Ffk15.out).2 HO.out.1.2.2) ⟨_, rfl, tab_put rfl hs rfl rfl, hS.same 9 rfl⟩
      ·
       have s60 : ax.tmps.getD 60 undef = .int .u64 (a / q) := (hdone 0 _ rfl rfl).2 _ rfl
       have s65 : ax.tmps.getD 65 undef = .int .u64 (b / p) := (hdone 1 _ rfl rfl).2 _ rfl
       exact wpOp_val (v := .agg #[.int .u64 (a / q), .int .u64 (b / p)]) (w' := wx) rfl rfl (exec_build rfl (parts2 (show ax.eval (.tmp 60) = .int .u64 (a / q) from s60) (show ax.eval (.tmp 65) = .int .u64 (b / p) from s65)) (by kernel_rfl)) ⟨_, rfl, tab_put rfl hs rfl rfl, hS.same 10 rfl⟩
      ·
       have s66 : ax.tmps.getD 66 undef = .agg #[.int .u64 (a / q), .int .u64 (b / p)] := (hdone 0 _ rfl rfl).2 _ rfl
       have hr := hS.rowFi 2 rfl hfi
       exact wpOp_skp (w' := wx.setRow g3 #[.int .u64 (a / q), .int .u64 (b / p)]) rfl rfl (exec_storeR 95 _ _ rfl g3 #[.int .u64 (a / q), .int .u64 (b / p)] (show ax.eval (.tmp 6) = .pointer (some ⟨g3, 0, none⟩) from t6) (show ax.eval (.tmp 66) = .agg #[.int .u64 (a / q), .int .u64 (b / p)] from s66) hr (by kernel_rfl) rfl (by simp [Value.oneCell'])) ⟨undef, rfl, trivial, hS.storeBi 11 2 rfl q_g3 rfl ⟨(show g1 ≠ g3 by omega), (show g2 ≠ g3 by omega), trivial⟩ (stored_setRow wx g3 _ _ _ hr)⟩
    intro a10 w10 fl d10 z10 rest10 R10 hfl hS
    obtain ⟨B10, n10, hBs, hAs, hPs⟩ := hS.finish hfl rfl
    replace d10 := d10.trans d9
    replace z10 := z10.trans z9
    obtain ⟨⟨-, b_g1_10⟩, ⟨-, b_g2_10⟩, ⟨-, b_g3_10⟩, -⟩ := hBs
    have s6_10 := (rest10 6 (not_of (by kernel_rfl))).trans s6_9
    clear R10 rest10 hS hfl hPs hAs
    clear s4_9 s5_9 s6_9 s52_9 b_g1_9 b_g2_9 b_g3_9 d9 z9
    refine wp_ret ?_
    try simp only [Exit.inBlock, Exit.then]
    refine bodyPost_ret (res_c (fn := Try.f92) rfl s6_10 (load_row 95 b_g3_10 Try.underlying95 rfl (by kernel_rfl))) d10 ?_
    have no5 := nb Ffk11.out
    have no4 := nb Ffk12.out
    have no10 := nb Ffk13.out
    have ho : op = 3 := yb Ffk14.out
    have HE : restU op ⟨⟨a, b⟩, ⟨c, d⟩⟩ ⟨⟨p, q⟩, ⟨r, t⟩⟩ = ⟨a / q, b / p⟩ := by
      unfold restU
      rw [if_neg no5, if_neg no4, if_neg no10]
      rw [if_pos ho]
      rw [if_neg (by have := Ffk15.out; simpa using this)]
      try rfl
    have HE2 : (.agg #[.int .u64 (a / q), .int .u64 (b / p)] : Value) = .agg #[.int .u64 (restU op ⟨⟨a, b⟩, ⟨c, d⟩⟩ ⟨⟨p, q⟩, ⟨r, t⟩⟩).lo, .int .u64 (restU op ⟨⟨a, b⟩, ⟨c, d⟩⟩ ⟨⟨p, q⟩, ⟨r, t⟩⟩).hi] := by rw [HE]
    exact ⟨retV HE2, B10⟩
   have Ffk15 := Lib.hid fk15; clear fk15
   refine wp_regx (SX W w8.heap.size [⟨g1, 60, (cR a b c d), none, #[]⟩, ⟨g2, 60, (cR p q r t), none, #[]⟩, ⟨g3, 95, (cU 0 0), none, #[]⟩] []) (TabX [fun vx => vx = .pointer (some ⟨g2, 0, none⟩), fun vx => vx = .int .u64 p, fun vx => vx = .bool true]) (by kernel_rfl) (back_of (by kernel_rfl)) (dst_of (by kernel_rfl)) (in_ofz (by kernel_rfl) z8) (fun fl w1 hfl hw => SX.start' hw B8 hfl rfl ⟨b_g1_8, b_g2_8, b_g3_8, trivial⟩) ?h50 ?_
   case h50 =>
     intro ix ox ax wx fl ho hS hfi clo hsz hrest hdone hund
     have t5 := (hrest 5 (not_of (by kernel_rfl))).trans s5_8
     have hs : ax.tmps.size = 119 := hsz.trans z8
     have hi : ix < 3 := (Array.getElem?_eq_some_iff.1 ho).1
     clear hrest hsz hund
     obtain rfl | rfl | rfl : ix = 0 ∨ ix = 1 ∨ ix = 2 := by omega
     all_goals obtain rfl := Option.some.inj (show some _ = some ox from ho)
     ·
      exact wpOp_val (v := .pointer (some ⟨g2, 0, none⟩)) (w' := wx) rfl rfl (by simp [execOp, Act.eval, t5, go_sem]) ⟨_, rfl, tab_put rfl hs rfl rfl, hS.same 0 rfl⟩
     ·
      have s50 : ax.tmps.getD 50 undef = .pointer (some ⟨g2, 0, none⟩) := (hdone 0 _ rfl rfl).2 _ rfl
      have hr := hS.rowNi 1 rfl
      have hc := exec_load1 (i := 0) hr (v := .int .u64 p) rfl
      exact wpOp_val (v := .int .u64 p) (w' := wx) rfl rfl (by simp [execOp, Act.eval, s50, hc, go_sem]) ⟨_, rfl, tab_put rfl hs rfl rfl, hS.same 1 rfl⟩
     ·
      have s51 : ax.tmps.getD 51 undef = .int .u64 p := (hdone 0 _ rfl rfl).2 _ rfl
      exact wpOp_val (v := .bool (p == 0)) (w' := wx) rfl rfl (by (simp [execOp, Act.eval, s51, go_sem]; try (simp only [IntKind.wrap_i64, wrap64]))) ⟨_, rfl, tab_put rfl hs rfl (congrArg Value.bool Ffk15.out), hS.same 2 rfl⟩
   intro a9 w9 fl d9 z9 rest9 R9 hfl hS
   obtain ⟨B9, n9, hBs, hAs, hPs⟩ := hS.finish hfl rfl
   replace d9 := d9.trans d8
   replace z9 := z9.trans z8
   obtain ⟨⟨-, b_g1_9⟩, ⟨-, b_g2_9⟩, ⟨-, b_g3_9⟩, -⟩ := hBs
   have s4_9 := (rest9 4 (not_of (by kernel_rfl))).trans s4_8
   have s5_9 := (rest9 5 (not_of (by kernel_rfl))).trans s5_8
   have s6_9 := (rest9 6 (not_of (by kernel_rfl))).trans s6_8
   have s52_9 : a9.tmps.getD 52 undef = .bool true := R9 2 _ rfl
   clear R9 rest9 hS hfl hPs hAs
   clear s4_8 s5_8 s6_8 s7_8 s8_8 s16_8 s48_8 b_g1_8 b_g2_8 b_g3_8 d8 z8
   refine wp_cond_true (show a9.tmps.getD 52 undef = .bool true from s52_9) ?_
   refine wp_seq ?_
   refine wp_regx (SX W w9.heap.size [⟨g1, 60, (cR a b c d), none, #[]⟩, ⟨g2, 60, (cR p q r t), none, #[]⟩, ⟨g3, 95, (cU 0 0), some 3, (cU 0 b)⟩] []) (TabX [fun vx => vx = .pointer (some ⟨g1, 1, none⟩), fun vx => vx = .int .u64 b, fun vx => vx = .agg #[.int .u64 0, .int .u64 b], fun _ => True]) (by kernel_rfl) (back_of (by kernel_rfl)) (dst_of (by kernel_rfl)) (in_ofz (by kernel_rfl) z9) (fun fl w1 hfl hw => SX.start' hw B9 hfl rfl ⟨b_g1_9, b_g2_9, b_g3_9, trivial⟩) ?h51 ?_
   case h51 =>
     intro ix ox ax wx fl ho hS hfi clo hsz hrest hdone hund
     have t4 := (hrest 4 (not_of (by kernel_rfl))).trans s4_9
     have t6 := (hrest 6 (not_of (by kernel_rfl))).trans s6_9
     have hs : ax.tmps.size = 119 := hsz.trans z9
     have hi : ix < 4 := (Array.getElem?_eq_some_iff.1 ho).1
     clear hrest hsz hund
     obtain rfl | rfl | rfl | rfl : ix = 0 ∨ ix = 1 ∨ ix = 2 ∨ ix = 3 := by omega
     all_goals obtain rfl := Option.some.inj (show some _ = some ox from ho)
     ·
      exact wpOp_val (v := .pointer (some ⟨g1, 1, none⟩)) (w' := wx) rfl rfl (by simp [execOp, Act.eval, t4, go_sem]) ⟨_, rfl, tab_put rfl hs rfl rfl, hS.same 0 rfl⟩
     ·
      have s53 : ax.tmps.getD 53 undef = .pointer (some ⟨g1, 1, none⟩) := (hdone 0 _ rfl rfl).2 _ rfl
      have hr := hS.rowNi 0 rfl
      have hc := exec_load1 (i := 1) hr (v := .int .u64 b) rfl
      exact wpOp_val (v := .int .u64 b) (w' := wx) rfl rfl (by simp [execOp, Act.eval, s53, hc, go_sem]) ⟨_, rfl, tab_put rfl hs rfl rfl, hS.same 1 rfl⟩
     ·
      have s54 : ax.tmps.getD 54 undef = .int .u64 b := (hdone 0 _ rfl rfl).2 _ rfl
      refine wpOp_call (args := #[.int .u64 b]) rfl rfl (exec_call rfl rfl rfl (args1 (show ax.eval (.tmp 54) = .int .u64 b from s54)) Try.func81 (by decide +kernel) rfl) ?_
      · refine (upTo_n b wx).mono ?_
        rintro e w' ⟨rfl, b9⟩
        exact ⟨_, rfl, _, rfl, tab_put rfl hs rfl rfl, hS.quiet 2 rfl b9⟩
     ·
      have s55 : ax.tmps.getD 55 undef = .agg #[.int .u64 0, .int .u64 b] := (hdone 0 _ rfl rfl).2 _ rfl
      have hr := hS.rowFi 2 rfl hfi
      exact wpOp_skp (w' := wx.setRow g3 #[.int .u64 0, .int .u64 b]) rfl rfl (exec_storeR 95 _ _ rfl g3 #[.int .u64 0, .int .u64 b] (show ax.eval (.tmp 6) = .pointer (some ⟨g3, 0, none⟩) from t6) (show ax.eval (.tmp 55) = .agg #[.int .u64 0, .int .u64 b] from s55) hr (by kernel_rfl) rfl (by simp [Value.oneCell'])) ⟨undef, rfl, trivial, hS.storeBi 3 2 rfl q_g3 rfl ⟨(show g1 ≠ g3 by omega), (show g2 ≠ g3 by omega), trivial⟩ (stored_setRow wx g3 _ _ _ hr)⟩
   intro a10 w10 fl d10 z10 rest10 R10 hfl hS
   obtain ⟨B10, n10, hBs, hAs, hPs⟩ := hS.finish hfl rfl
   replace d10 := d10.trans d9
   replace z10 := z10.trans z9
   obtain ⟨⟨-, b_g1_10⟩, ⟨-, b_g2_10⟩, ⟨-, b_g3_10⟩, -⟩ := hBs
   have s4_10 := (rest10 4 (not_of (by kernel_rfl))).trans s4_9
   have s5_10 := (rest10 5 (not_of (by kernel_rfl))).trans s5_9
   have s6_10 := (rest10 6 (not_of (by kernel_rfl))).trans s6_9
   clear R10 rest10 hS hfl hPs hAs
   clear s4_9 s5_9 s6_9 s52_9 b_g1_9 b_g2_9 b_g3_9 d9 z9
   refine wp_ret ?_
   try simp only [Exit.inBlock, Exit.then]
   refine bodyPost_ret (res_c (fn := Try.f92) rfl s6_10 (load_row 95 b_g3_10 Try.underlying95 rfl (by kernel_rfl))) d10 ?_
   have no5 := nb Ffk11.out
   have no4 := nb Ffk12.out
   have no10 := nb Ffk13.out
   have ho : op = 3 := yb Ffk14.out
   have HE : restU op ⟨⟨a, b⟩, ⟨c, d⟩⟩ ⟨⟨p, q⟩, ⟨r, t⟩⟩ = ⟨0, b⟩ := by
     unfold restU
     rw [if_neg no5, if_neg no4, if_neg no10]
     rw [if_pos ho]
     rw [if_pos (by have := Ffk15.out; simpa using this)]
     try rfl
   have HE2 : (.agg #[.int .u64 0, .int .u64 b] : Value) = .agg #[.int .u64 (restU op ⟨⟨a, b⟩, ⟨c, d⟩⟩ ⟨⟨p, q⟩, ⟨r, t⟩⟩).lo, .int .u64 (restU op ⟨⟨a, b⟩, ⟨c, d⟩⟩ ⟨⟨p, q⟩, ⟨r, t⟩⟩).hi] := by rw [HE]
   exact ⟨retV HE2, B10⟩
  have Ffk14 := Lib.hid fk14; clear fk14
  refine wp_regx (SX W w7.heap.size [⟨g1, 60, (cR a b c d), none, #[]⟩, ⟨g2, 60, (cR p q r t), none, #[]⟩, ⟨g3, 95, (cU 0 0), none, #[]⟩] []) (TabX [fun vx => vx = .bool false, fun vx => vx = .bool false]) (by kernel_rfl) (back_of (by kernel_rfl)) (dst_of (by kernel_rfl)) (in_ofz (by kernel_rfl) z7) (fun fl w1 hfl hw => SX.start' hw B7 hfl rfl ⟨b_g1_7, b_g2_7, b_g3_7, trivial⟩) ?h52 ?_
  case h52 =>
    intro ix ox ax wx fl ho hS hfi clo hsz hrest hdone hund
    have t16 := (hrest 16 (not_of (by kernel_rfl))).trans s16_7
    have hs : ax.tmps.size = 119 := hsz.trans z7
    have hi : ix < 2 := (Array.getElem?_eq_some_iff.1 ho).1
    clear hrest hsz hund
    obtain rfl | rfl : ix = 0 ∨ ix = 1 := by omega
    all_goals obtain rfl := Option.some.inj (show some _ = some ox from ho)
    ·
     exact wpOp_val (v := .bool (op == 3)) (w' := wx) rfl rfl (by (simp [execOp, Act.eval, t16, go_sem]; try (simp only [IntKind.wrap_i64, wrap64]))) ⟨_, rfl, tab_put rfl hs rfl (congrArg Value.bool Ffk14.out), hS.same 0 rfl⟩
    ·
     have s49 : ax.tmps.getD 49 undef = .bool false := (hdone 0 _ rfl rfl).2 _ rfl
     exact wpOp_val (v := .bool false) (w' := wx) rfl rfl (by simp [execOp, Act.eval, s49]) ⟨_, rfl, tab_put rfl hs rfl rfl, hS.same 1 rfl⟩
  intro a8 w8 fl d8 z8 rest8 R8 hfl hS
  obtain ⟨B8, n8, hBs, hAs, hPs⟩ := hS.finish hfl rfl
  replace d8 := d8.trans d7
  replace z8 := z8.trans z7
  obtain ⟨⟨-, b_g1_8⟩, ⟨-, b_g2_8⟩, ⟨-, b_g3_8⟩, -⟩ := hBs
  have s4_8 := (rest8 4 (not_of (by kernel_rfl))).trans s4_7
  have s5_8 := (rest8 5 (not_of (by kernel_rfl))).trans s5_7
  have s6_8 := (rest8 6 (not_of (by kernel_rfl))).trans s6_7
  have s7_8 := (rest8 7 (not_of (by kernel_rfl))).trans s7_7
  have s8_8 := (rest8 8 (not_of (by kernel_rfl))).trans s8_7
  have s16_8 := (rest8 16 (not_of (by kernel_rfl))).trans s16_7
  have s48_8 : a8.tmps.getD 48 undef = .bool false := R8 1 _ rfl
  clear R8 rest8 hS hfl hPs hAs
  clear s4_7 s5_7 s6_7 s7_7 s8_7 s16_7 s39_7 b_g1_7 b_g2_7 b_g3_7 d7 z7
  refine wp_cond_false (show a8.tmps.getD 48 undef = .bool false from s48_8) ?_
  refine wp_seq ?_
  cases fk16 : op == 9
  case true =>
   have Ffk16 := Lib.hid fk16; clear fk16
   refine wp_regx (SX W w8.heap.size [⟨g1, 60, (cR a b c d), none, #[]⟩, ⟨g2, 60, (cR p q r t), none, #[]⟩, ⟨g3, 95, (cU 0 0), none, #[]⟩] []) (TabX [fun vx => vx = .bool true, fun vx => vx = .bool true]) (by kernel_rfl) (back_of (by kernel_rfl)) (dst_of (by kernel_rfl)) (in_ofz (by kernel_rfl) z8) (fun fl w1 hfl hw => SX.start' hw B8 hfl rfl ⟨b_g1_8, b_g2_8, b_g3_8, trivial⟩) ?h53 ?_
   case h53 =>
     intro ix ox ax wx fl ho hS hfi clo hsz hrest hdone hund
     have t16 := (hrest 16 (not_of (by kernel_rfl))).trans s16_8
     have hs : ax.tmps.size = 119 := hsz.trans z8
     have hi : ix < 2 := (Array.getElem?_eq_some_iff.1 ho).1
     clear hrest hsz hund
     obtain rfl | rfl : ix = 0 ∨ ix = 1 := by omega
     all_goals obtain rfl := Option.some.inj (show some _ = some ox from ho)
     ·
      exact wpOp_val (v := .bool (op == 9)) (w' := wx) rfl rfl (by (simp [execOp, Act.eval, t16, go_sem]; try (simp only [IntKind.wrap_i64, wrap64]))) ⟨_, rfl, tab_put rfl hs rfl (congrArg Value.bool Ffk16.out), hS.same 0 rfl⟩
     ·
      have s68 : ax.tmps.getD 68 undef = .bool true := (hdone 0 _ rfl rfl).2 _ rfl
      exact wpOp_val (v := .bool true) (w' := wx) rfl rfl (by simp [execOp, Act.eval, s68]) ⟨_, rfl, tab_put rfl hs rfl rfl, hS.same 1 rfl⟩
   intro a9 w9 fl d9 z9 rest9 R9 hfl hS
   obtain ⟨B9, n9, hBs, hAs, hPs⟩ := hS.finish hfl rfl
   replace d9 := d9.trans d8
   replace z9 := z9.trans z8
   obtain ⟨⟨-, b_g1_9⟩, ⟨-, b_g2_9⟩, ⟨-, b_g3_9⟩, -⟩ := hBs
   have s4_9 := (rest9 4 (not_of (by kernel_rfl))).trans s4_8
   have s5_9 := (rest9 5 (not_of (by kernel_rfl))).trans s5_8
   have s6_9 := (rest9 6 (not_of (by kernel_rfl))).trans s6_8
   have s7_9 := (rest9 7 (not_of (by kernel_rfl))).trans s7_8
   have s8_9 := (rest9 8 (not_of (by kernel_rfl))).trans s8_8
   have s16_9 := (rest9 16 (not_of (by kernel_rfl))).trans s16_8
   have s67_9 : a9.tmps.getD 67 undef = .bool true := R9 1 _ rfl
   clear R9 rest9 hS hfl hPs hAs
   clear s4_8 s5_8 s6_8 s7_8 s8_8 s16_8 s48_8 b_g1_8 b_g2_8 b_g3_8 d8 z8
   refine wp_cond_true (show a9.tmps.getD 67 undef = .bool true from s67_9) ?_
   refine wp_seq ?_
   refine wp_seq ?_
   cases fk17 : p == 0
   case false =>
    have Ffk17 := Lib.hid fk17; clear fk17
    refine wp_regx (SX W w9.heap.size [⟨g1, 60, (cR a b c d), none, #[]⟩, ⟨g2, 60, (cR p q r t), none, #[]⟩, ⟨g3, 95, (cU 0 0), none, #[]⟩] []) (TabX [fun vx => vx = .pointer (some ⟨g2, 0, none⟩), fun vx => vx = .int .u64 p, fun vx => vx = .bool false]) (by kernel_rfl) (back_of (by kernel_rfl)) (dst_of (by kernel_rfl)) (in_ofz (by kernel_rfl) z9) (fun fl w1 hfl hw => SX.start' hw B9 hfl rfl ⟨b_g1_9, b_g2_9, b_g3_9, trivial⟩) ?h54 ?_
    case h54 =>
      intro ix ox ax wx fl ho hS hfi clo hsz hrest hdone hund
      have t5 := (hrest 5 (not_of (by kernel_rfl))).trans s5_9
      have hs : ax.tmps.size = 119 := hsz.trans z9
      have hi : ix < 3 := (Array.getElem?_eq_some_iff.1 ho).1
      clear hrest hsz hund
      obtain rfl | rfl | rfl : ix = 0 ∨ ix = 1 ∨ ix = 2 := by omega
      all_goals obtain rfl := Option.some.inj (show some _ = some ox from ho)
      ·
       exact wpOp_val (v := .pointer (some ⟨g2, 0, none⟩)) (w' := wx) rfl rfl (by simp [execOp, Act.eval, t5, go_sem]) ⟨_, rfl, tab_put rfl hs rfl rfl, hS.same 0 rfl⟩
      ·
       have s69 : ax.tmps.getD 69 undef = .pointer (some ⟨g2, 0, none⟩) := (hdone 0 _ rfl rfl).2 _ rfl
       have hr := hS.rowNi 1 rfl
       have hc := exec_load1 (i := 0) hr (v := .int .u64 p) rfl
       exact wpOp_val (v := .int .u64 p) (w' := wx) rfl rfl (by simp [execOp, Act.eval, s69, hc, go_sem]) ⟨_, rfl, tab_put rfl hs rfl rfl, hS.same 1 rfl⟩
      ·
       have s70 : ax.tmps.getD 70 undef = .int .u64 p := (hdone 0 _ rfl rfl).2 _ rfl
       exact wpOp_val (v := .bool (p == 0)) (w' := wx) rfl rfl (by (simp [execOp, Act.eval, s70, go_sem]; try (simp only [IntKind.wrap_i64, wrap64]))) ⟨_, rfl, tab_put rfl hs rfl (congrArg Value.bool Ffk17.out), hS.same 2 rfl⟩
    intro a10 w10 fl d10 z10 rest10 R10 hfl hS
    obtain ⟨B10, n10, hBs, hAs, hPs⟩ := hS.finish hfl rfl
    replace d10 := d10.trans d9
    replace z10 := z10.trans z9
    obtain ⟨⟨-, b_g1_10⟩, ⟨-, b_g2_10⟩, ⟨-, b_g3_10⟩, -⟩ := hBs
    have s4_10 := (rest10 4 (not_of (by kernel_rfl))).trans s4_9
    have s5_10 := (rest10 5 (not_of (by kernel_rfl))).trans s5_9
    have s6_10 := (rest10 6 (not_of (by kernel_rfl))).trans s6_9
    have s71_10 : a10.tmps.getD 71 undef = .bool false := R10 2 _ rfl
    clear R10 rest10 hS hfl hPs hAs
    clear s4_9 s5_9 s6_9 s7_9 s8_9 s16_9 s67_9 b_g1_9 b_g2_9 b_g3_9 d9 z9
    refine wp_cond_false (show a10.tmps.getD 71 undef = .bool false from s71_10) ?_
    refine wp_skip ?_
    refine wp_seq ?_
    refine wp_regx (SX W w10.heap.size [⟨g1, 60, (cR a b c d), none, #[]⟩, ⟨g2, 60, (cR p q r t), none, #[]⟩, ⟨g3, 95, (cU 0 0), some 7, (cU 0 (min b (IntKind.u64.wrap (q - 1))))⟩] []) (TabX [fun vx => vx = .pointer (some ⟨g1, 1, none⟩), fun vx => vx = .int .u64 b, fun vx => vx = .pointer (some ⟨g2, 1, none⟩), fun vx => vx = .int .u64 q, fun vx => vx = .int .u64 (IntKind.u64.wrap (q - 1)), fun vx => vx = .int .u64 (min b (IntKind.u64.wrap (q - 1))), fun vx => vx = .agg #[.int .u64 0, .int .u64 (min b (IntKind.u64.wrap (q - 1)))], fun _ => True]) (by kernel_rfl) (back_of (by kernel_rfl)) (dst_of (by kernel_rfl)) (in_ofz (by kernel_rfl) z10) (fun fl w1 hfl hw => SX.start' hw B10 hfl rfl ⟨b_g1_10, b_g2_10, b_g3_10, trivial⟩) ?h55 ?_
    case h55 =>
      intro ix ox ax wx fl ho hS hfi clo hsz hrest hdone hund
      have t4 := (hrest 4 (not_of (by kernel_rfl))).trans s4_10
      have t5 := (hrest 5 (not_of (by kernel_rfl))).trans s5_10
      have t6 := (hrest 6 (not_of (by kernel_rfl))).trans s6_10
      have hs : ax.tmps.size = 119 := hsz.trans z10
      have hi : ix < 8 := (Array.getElem?_eq_some_iff.1 ho).1
      clear hrest hsz hund
      obtain rfl | rfl | rfl | rfl | rfl | rfl | rfl | rfl : ix = 0 ∨ ix = 1 ∨ ix = 2 ∨ ix = 3 ∨ ix = 4 ∨ ix = 5 ∨ ix = 6 ∨ ix = 7 := by omega
      all_goals obtain rfl := Option.some.inj (show some _ = some ox from ho)
      ·
       exact wpOp_val (v := .pointer (some ⟨g1, 1, none⟩)) (w' := wx) rfl rfl (by simp [execOp, Act.eval, t4, go_sem]) ⟨_, rfl, tab_put rfl hs rfl rfl, hS.same 0 rfl⟩
      ·
       have s75 : ax.tmps.getD 75 undef = .pointer (some ⟨g1, 1, none⟩) := (hdone 0 _ rfl rfl).2 _ rfl
       have hr := hS.rowNi 0 rfl
       have hc := exec_load1 (i := 1) hr (v := .int .u64 b) rfl
       exact wpOp_val (v := .int .u64 b) (w' := wx) rfl rfl (by simp [execOp, Act.eval, s75, hc, go_sem]) ⟨_, rfl, tab_put rfl hs rfl rfl, hS.same 1 rfl⟩
      ·
       exact wpOp_val (v := .pointer (some ⟨g2, 1, none⟩)) (w' := wx) rfl rfl (by simp [execOp, Act.eval, t5, go_sem]) ⟨_, rfl, tab_put rfl hs rfl rfl, hS.same 2 rfl⟩
      ·
       have s77 : ax.tmps.getD 77 undef = .pointer (some ⟨g2, 1, none⟩) := (hdone 0 _ rfl rfl).2 _ rfl
       have hr := hS.rowNi 1 rfl
       have hc := exec_load1 (i := 1) hr (v := .int .u64 q) rfl
       exact wpOp_val (v := .int .u64 q) (w' := wx) rfl rfl (by simp [execOp, Act.eval, s77, hc, go_sem]) ⟨_, rfl, tab_put rfl hs rfl rfl, hS.same 3 rfl⟩
      ·
       have s78 : ax.tmps.getD 78 undef = .int .u64 q := (hdone 0 _ rfl rfl).2 _ rfl
       exact wpOp_val (v := .int .u64 (IntKind.u64.wrap (q - 1))) (w' := wx) rfl rfl (by (simp [execOp, Act.eval, s78, go_sem]; try (simp only [IntKind.wrap_i64, wrap64]))) ⟨_, rfl, tab_put rfl hs rfl rfl, hS.same 4 rfl⟩
      ·
       have s76 : ax.tmps.getD 76 undef = .int .u64 b := (hdone 0 _ rfl rfl).2 _ rfl
       have s79 : ax.tmps.getD 79 undef = .int .u64 (IntKind.u64.wrap (q - 1)) := (hdone 1 _ rfl rfl).2 _ rfl
       exact wpOp_val (v := .int .u64 (min b (IntKind.u64.wrap (q - 1)))) (w' := wx) rfl rfl (by simp [execOp, Act.eval, s76, s79, go_sem]) ⟨_, rfl, tab_put rfl hs rfl rfl, hS.same 5 rfl⟩
      ·
       have s80 : ax.tmps.getD 80 undef = .int .u64 (min b (IntKind.u64.wrap (q - 1))) := (hdone 0 _ rfl rfl).2 _ rfl
       refine wpOp_call (args := #[.int .u64 (min b (IntKind.u64.wrap (q - 1)))]) rfl rfl (exec_call rfl rfl rfl (args1 (show ax.eval (.tmp 80) = .int .u64 (min b (IntKind.u64.wrap (q - 1))) from s80)) Try.func81 (by decide +kernel) rfl) ?_
       · refine (upTo_n (min b (IntKind.u64.wrap (q - 1))) wx).mono ?_
         rintro e w' ⟨rfl, b9⟩
         exact ⟨_, rfl, _, rfl, tab_put rfl hs rfl rfl, hS.quiet 6 rfl b9⟩
      ·
       have s81 : ax.tmps.getD 81 undef = .agg #[.int .u64 0, .int .u64 (min b (IntKind.u64.wrap (q - 1)))] := (hdone 0 _ rfl rfl).2 _ rfl
       have hr := hS.rowFi 2 rfl hfi
       exact wpOp_skp (w' := wx.setRow g3 #[.int .u64 0, .int .u64 (min b (IntKind.u64.wrap (q - 1)))]) rfl rfl (exec_storeR 95 _ _ rfl g3 #[.int .u64 0, .int .u64 (min b (IntKind.u64.wrap (q - 1)))] (show ax.eval (.tmp 6) = .pointer (some ⟨g3, 0, none⟩) from t6) (show ax.eval (.tmp 81) = .agg #[.int .u64 0, .int .u64 (min b (IntKind.u64.wrap (q - 1)))] from s81) hr (by kernel_rfl) rfl (by simp [Value.oneCell'])) ⟨undef, rfl, trivial, hS.storeBi 7 2 rfl q_g3 rfl ⟨(show g1 ≠ g3 by omega), (show g2 ≠ g3 by omega), trivial⟩ (stored_setRow wx g3 _ _ _ hr)⟩
    intro a11 w11 fl d11 z11 rest11 R11 hfl hS
    obtain ⟨B11, n11, hBs, hAs, hPs⟩ := hS.finish hfl rfl
    replace d11 := d11.trans d10
    replace z11 := z11.trans z10
    obtain ⟨⟨-, b_g1_11⟩, ⟨-, b_g2_11⟩, ⟨-, b_g3_11⟩, -⟩ := hBs
    have s6_11 := (rest11 6 (not_of (by kernel_rfl))).trans s6_10
    clear R11 rest11 hS hfl hPs hAs
    clear s4_10 s5_10 s6_10 s71_10 b_g1_10 b_g2_10 b_g3_10 d10 z10
    refine wp_ret ?_
    try simp only [Exit.inBlock, Exit.then]
    refine bodyPost_ret (res_c (fn := Try.f92) rfl s6_11 (load_row 95 b_g3_11 Try.underlying95 rfl (by kernel_rfl))) d11 ?_
    have no5 := nb Ffk11.out
    have no4 := nb Ffk12.out
    have no10 := nb Ffk13.out
    have no3 := nb Ffk14.out
    have ho : op = 9 := yb Ffk16.out
    have HE : restU op ⟨⟨a, b⟩, ⟨c, d⟩⟩ ⟨⟨p, q⟩, ⟨r, t⟩⟩ = ⟨0, min b (IntKind.u64.wrap (q - 1))⟩ := by
      unfold restU
      rw [if_neg no5, if_neg no4, if_neg no10, if_neg no3]
      rw [if_pos ho]
      rw [if_neg (by have := Ffk17.out; simpa using this)]
      rw [← (HM.out Ffk17.out)]
      try rfl
    have HE2 : (.agg #[.int .u64 0, .int .u64 (min b (IntKind.u64.wrap (q - 1)))] : Value) = .agg #[.int .u64 (restU op ⟨⟨a, b⟩, ⟨c, d⟩⟩ ⟨⟨p, q⟩, ⟨r, t⟩⟩).lo, .int .u64 (restU op ⟨⟨a, b⟩, ⟨c, d⟩⟩ ⟨⟨p, q⟩, ⟨r, t⟩⟩).hi] := by rw [HE]
    exact ⟨retV HE2, B11⟩
   have Ffk17 := Lib.hid fk17; clear fk17
   refine wp_regx (SX W w9.heap.size [⟨g1, 60, (cR a b c d), none, #[]⟩, ⟨g2, 60, (cR p q r t), none, #[]⟩, ⟨g3, 95, (cU 0 0), none, #[]⟩] []) (TabX [fun vx => vx = .pointer (some ⟨g2, 0, none⟩), fun vx => vx = .int .u64 p, fun vx => vx = .bool true]) (by kernel_rfl) (back_of (by kernel_rfl)) (dst_of (by kernel_rfl)) (in_ofz (by kernel_rfl) z9) (fun fl w1 hfl hw => SX.start' hw B9 hfl rfl ⟨b_g1_9, b_g2_9, b_g3_9, trivial⟩) ?h56 ?_
   case h56 =>
     intro ix ox ax wx fl ho hS hfi clo hsz hrest hdone hund
     have t5 := (hrest 5 (not_of (by kernel_rfl))).trans s5_9
     have hs : ax.tmps.size = 119 := hsz.trans z9
     have hi : ix < 3 := (Array.getElem?_eq_some_iff.1 ho).1
     clear hrest hsz hund
     obtain rfl | rfl | rfl : ix = 0 ∨ ix = 1 ∨ ix = 2 := by omega
     all_goals obtain rfl := Option.some.inj (show some _ = some ox from ho)
     ·
      exact wpOp_val (v := .pointer (some ⟨g2, 0, none⟩)) (w' := wx) rfl rfl (by simp [execOp, Act.eval, t5, go_sem]) ⟨_, rfl, tab_put rfl hs rfl rfl, hS.same 0 rfl⟩
     ·
      have s69 : ax.tmps.getD 69 undef = .pointer (some ⟨g2, 0, none⟩) := (hdone 0 _ rfl rfl).2 _ rfl
      have hr := hS.rowNi 1 rfl
      have hc := exec_load1 (i := 0) hr (v := .int .u64 p) rfl
      exact wpOp_val (v := .int .u64 p) (w' := wx) rfl rfl (by simp [execOp, Act.eval, s69, hc, go_sem]) ⟨_, rfl, tab_put rfl hs rfl rfl, hS.same 1 rfl⟩
     ·
      have s70 : ax.tmps.getD 70 undef = .int .u64 p := (hdone 0 _ rfl rfl).2 _ rfl
      exact wpOp_val (v := .bool (p == 0)) (w' := wx) rfl rfl (by (simp [execOp, Act.eval, s70, go_sem]; try (simp only [IntKind.wrap_i64, wrap64]))) ⟨_, rfl, tab_put rfl hs rfl (congrArg Value.bool Ffk17.out), hS.same 2 rfl⟩
   intro a10 w10 fl d10 z10 rest10 R10 hfl hS
   obtain ⟨B10, n10, hBs, hAs, hPs⟩ := hS.finish hfl rfl
   replace d10 := d10.trans d9
   replace z10 := z10.trans z9
   obtain ⟨⟨-, b_g1_10⟩, ⟨-, b_g2_10⟩, ⟨-, b_g3_10⟩, -⟩ := hBs
   have s4_10 := (rest10 4 (not_of (by kernel_rfl))).trans s4_9
   have s5_10 := (rest10 5 (not_of (by kernel_rfl))).trans s5_9
   have s6_10 := (rest10 6 (not_of (by kernel_rfl))).trans s6_9
   have s71_10 : a10.tmps.getD 71 undef = .bool true := R10 2 _ rfl
   clear R10 rest10 hS hfl hPs hAs
   clear s4_9 s5_9 s6_9 s7_9 s8_9 s16_9 s67_9 b_g1_9 b_g2_9 b_g3_9 d9 z9
   refine wp_cond_true (show a10.tmps.getD 71 undef = .bool true from s71_10) ?_
   refine wp_seq ?_
   refine wp_regx (SX W w10.heap.size [⟨g1, 60, (cR a b c d), none, #[]⟩, ⟨g2, 60, (cR p q r t), none, #[]⟩, ⟨g3, 95, (cU 0 0), some 3, (cU 0 b)⟩] []) (TabX [fun vx => vx = .pointer (some ⟨g1, 1, none⟩), fun vx => vx = .int .u64 b, fun vx => vx = .agg #[.int .u64 0, .int .u64 b], fun _ => True]) (by kernel_rfl) (back_of (by kernel_rfl)) (dst_of (by kernel_rfl)) (in_ofz (by kernel_rfl) z10) (fun fl w1 hfl hw => SX.start' hw B10 hfl rfl ⟨b_g1_10, b_g2_10, b_g3_10, trivial⟩) ?h57 ?_
   case h57 =>
     intro ix ox ax wx fl ho hS hfi clo hsz hrest hdone hund
     have t4 := (hrest 4 (not_of (by kernel_rfl))).trans s4_10
     have t6 := (hrest 6 (not_of (by kernel_rfl))).trans s6_10
     have hs : ax.tmps.size = 119 := hsz.trans z10
     have hi : ix < 4 := (Array.getElem?_eq_some_iff.1 ho).1
     clear hrest hsz hund
     obtain rfl | rfl | rfl | rfl : ix = 0 ∨ ix = 1 ∨ ix = 2 ∨ ix = 3 := by omega
     all_goals obtain rfl := Option.some.inj (show some _ = some ox from ho)
     ·
      exact wpOp_val (v := .pointer (some ⟨g1, 1, none⟩)) (w' := wx) rfl rfl (by simp [execOp, Act.eval, t4, go_sem]) ⟨_, rfl, tab_put rfl hs rfl rfl, hS.same 0 rfl⟩
     ·
      have s72 : ax.tmps.getD 72 undef = .pointer (some ⟨g1, 1, none⟩) := (hdone 0 _ rfl rfl).2 _ rfl
      have hr := hS.rowNi 0 rfl
      have hc := exec_load1 (i := 1) hr (v := .int .u64 b) rfl
      exact wpOp_val (v := .int .u64 b) (w' := wx) rfl rfl (by simp [execOp, Act.eval, s72, hc, go_sem]) ⟨_, rfl, tab_put rfl hs rfl rfl, hS.same 1 rfl⟩
     ·
      have s73 : ax.tmps.getD 73 undef = .int .u64 b := (hdone 0 _ rfl rfl).2 _ rfl
      refine wpOp_call (args := #[.int .u64 b]) rfl rfl (exec_call rfl rfl rfl (args1 (show ax.eval (.tmp 73) = .int .u64 b from s73)) Try.func81 (by decide +kernel) rfl) ?_
      · refine (upTo_n b wx).mono ?_
        rintro e w' ⟨rfl, b9⟩
        exact ⟨_, rfl, _, rfl, tab_put rfl hs rfl rfl, hS.quiet 2 rfl b9⟩
     ·
      have s74 : ax.tmps.getD 74 undef = .agg #[.int .u64 0, .int .u64 b] := (hdone 0 _ rfl rfl).2 _ rfl
      have hr := hS.rowFi 2 rfl hfi
      exact wpOp_skp (w' := wx.setRow g3 #[.int .u64 0, .int .u64 b]) rfl rfl (exec_storeR 95 _ _ rfl g3 #[.int .u64 0, .int .u64 b] (show ax.eval (.tmp 6) = .pointer (some ⟨g3, 0, none⟩) from t6) (show ax.eval (.tmp 74) = .agg #[.int .u64 0, .int .u64 b] from s74) hr (by kernel_rfl) rfl (by simp [Value.oneCell'])) ⟨undef, rfl, trivial, hS.storeBi 3 2 rfl q_g3 rfl ⟨(show g1 ≠ g3 by omega), (show g2 ≠ g3 by omega), trivial⟩ (stored_setRow wx g3 _ _ _ hr)⟩
   intro a11 w11 fl d11 z11 rest11 R11 hfl hS
   obtain ⟨B11, n11, hBs, hAs, hPs⟩ := hS.finish hfl rfl
   replace d11 := d11.trans d10
   replace z11 := z11.trans z10
   obtain ⟨⟨-, b_g1_11⟩, ⟨-, b_g2_11⟩, ⟨-, b_g3_11⟩, -⟩ := hBs
   have s4_11 := (rest11 4 (not_of (by kernel_rfl))).trans s4_10
   have s5_11 := (rest11 5 (not_of (by kernel_rfl))).trans s5_10
   have s6_11 := (rest11 6 (not_of (by kernel_rfl))).trans s6_10
   clear R11 rest11 hS hfl hPs hAs
   clear s4_10 s5_10 s6_10 s71_10 b_g1_10 b_g2_10 b_g3_10 d10 z10
   refine wp_ret ?_
   try simp only [Exit.inBlock, Exit.then]
   refine bodyPost_ret (res_c (fn := Try.f92) rfl s6_11 (load_row 95 b_g3_11 Try.underlying95 rfl (by kernel_rfl))) d11 ?_
   have no5 := nb Ffk11.out
   have no4 := nb Ffk12.out
   have no10 := nb Ffk13.out
   have no3 := nb Ffk14.out
   have ho : op = 9 := yb Ffk16.out
   have HE : restU op ⟨⟨a, b⟩, ⟨c, d⟩⟩ ⟨⟨p, q⟩, ⟨r, t⟩⟩ = ⟨0, b⟩ := by
     unfold restU
     rw [if_neg no5, if_neg no4, if_neg no10, if_neg no3]
     rw [if_pos ho]
     rw [if_pos (by have := Ffk17.out; simpa using this)]
     try rfl
   have HE2 : (.agg #[.int .u64 0, .int .u64 b] : Value) = .agg #[.int .u64 (restU op ⟨⟨a, b⟩, ⟨c, d⟩⟩ ⟨⟨p, q⟩, ⟨r, t⟩⟩).lo, .int .u64 (restU op ⟨⟨a, b⟩, ⟨c, d⟩⟩ ⟨⟨p, q⟩, ⟨r, t⟩⟩).hi] := by rw [HE]
   exact ⟨retV HE2, B11⟩
  have Ffk16 := Lib.hid fk16; clear fk16
  refine wp_regx (SX W w8.heap.size [⟨g1, 60, (cR a b c d), none, #[]⟩, ⟨g2, 60, (cR p q r t), none, #[]⟩, ⟨g3, 95, (cU 0 0), none, #[]⟩] []) (TabX [fun vx => vx = .bool false, fun vx => vx = .bool false]) (by kernel_rfl) (back_of (by kernel_rfl)) (dst_of (by kernel_rfl)) (in_ofz (by kernel_rfl) z8) (fun fl w1 hfl hw => SX.start' hw B8 hfl rfl ⟨b_g1_8, b_g2_8, b_g3_8, trivial⟩) ?h58 ?_
  case h58 =>
    intro ix ox ax wx fl ho hS hfi clo hsz hrest hdone hund
    have t16 := (hrest 16 (not_of (by kernel_rfl))).trans s16_8
    have hs : ax.tmps.size = 119 := hsz.trans z8
    have hi : ix < 2 := (Array.getElem?_eq_some_iff.1 ho).1
    clear hrest hsz hund
    obtain rfl | rfl : ix = 0 ∨ ix = 1 := by omega
    all_goals obtain rfl := Option.some.inj (show some _ = some ox from ho)
    ·
     exact wpOp_val (v := .bool (op == 9)) (w' := wx) rfl rfl (by (simp [execOp, Act.eval, t16, go_sem]; try (simp only [IntKind.wrap_i64, wrap64]))) ⟨_, rfl, tab_put rfl hs rfl (congrArg Value.bool Ffk16.out), hS.same 0 rfl⟩
    ·
     have s68 : ax.tmps.getD 68 undef = .bool false := (hdone 0 _ rfl rfl).2 _ rfl
     exact wpOp_val (v := .bool false) (w' := wx) rfl rfl (by simp [execOp, Act.eval, s68]) ⟨_, rfl, tab_put rfl hs rfl rfl, hS.same 1 rfl⟩
  intro a9 w9 fl d9 z9 rest9 R9 hfl hS
  obtain ⟨B9, n9, hBs, hAs, hPs⟩ := hS.finish hfl rfl
  replace d9 := d9.trans d8
  replace z9 := z9.trans z8
  obtain ⟨⟨-, b_g1_9⟩, ⟨-, b_g2_9⟩, ⟨-, b_g3_9⟩, -⟩ := hBs
  have s4_9 := (rest9 4 (not_of (by kernel_rfl))).trans s4_8
  have s5_9 := (rest9 5 (not_of (by kernel_rfl))).trans s5_8
  have s6_9 := (rest9 6 (not_of (by kernel_rfl))).trans s6_8
  have s7_9 := (rest9 7 (not_of (by kernel_rfl))).trans s7_8
  have s8_9 := (rest9 8 (not_of (by kernel_rfl))).trans s8_8
  have s16_9 := (rest9 16 (not_of (by kernel_rfl))).trans s16_8
  have s67_9 : a9.tmps.getD 67 undef = .bool false := R9 1 _ rfl
  clear R9 rest9 hS hfl hPs hAs
  clear s4_8 s5_8 s6_8 s7_8 s8_8 s16_8 s48_8 b_g1_8 b_g2_8 b_g3_8 d8 z8
  refine wp_cond_false (show a9.tmps.getD 67 undef = .bool false from s67_9) ?_
  refine wp_seq ?_
  cases fk18 : op == 7
  case true =>
   have Ffk18 := Lib.hid fk18; clear fk18
   refine wp_regx (SX W w9.heap.size [⟨g1, 60, (cR a b c d), none, #[]⟩, ⟨g2, 60, (cR p q r t), none, #[]⟩, ⟨g3, 95, (cU 0 0), none, #[]⟩] []) (TabX [fun vx => vx = .bool true, fun vx => vx = .bool true]) (by kernel_rfl) (back_of (by kernel_rfl)) (dst_of (by kernel_rfl)) (in_ofz (by kernel_rfl) z9) (fun fl w1 hfl hw => SX.start' hw B9 hfl rfl ⟨b_g1_9, b_g2_9, b_g3_9, trivial⟩) ?h59 ?_
   case h59 =>
     intro ix ox ax wx fl ho hS hfi clo hsz hrest hdone hund
     have t16 := (hrest 16 (not_of (by kernel_rfl))).trans s16_9
     have hs : ax.tmps.size = 119 := hsz.trans z9
     have hi : ix < 2 := (Array.getElem?_eq_some_iff.1 ho).1
     clear hrest hsz hund
     obtain rfl | rfl : ix = 0 ∨ ix = 1 := by omega
     all_goals obtain rfl := Option.some.inj (show some _ = some ox from ho)
     ·
      exact wpOp_val (v := .bool (op == 7)) (w' := wx) rfl rfl (by (simp [execOp, Act.eval, t16, go_sem]; try (simp only [IntKind.wrap_i64, wrap64]))) ⟨_, rfl, tab_put rfl hs rfl (congrArg Value.bool Ffk18.out), hS.same 0 rfl⟩
     ·
      have s83 : ax.tmps.getD 83 undef = .bool true := (hdone 0 _ rfl rfl).2 _ rfl
      exact wpOp_val (v := .bool true) (w' := wx) rfl rfl (by simp [execOp, Act.eval, s83]) ⟨_, rfl, tab_put rfl hs rfl rfl, hS.same 1 rfl⟩
   intro a10 w10 fl d10 z10 rest10 R10 hfl hS
   obtain ⟨B10, n10, hBs, hAs, hPs⟩ := hS.finish hfl rfl
   replace d10 := d10.trans d9
   replace z10 := z10.trans z9
   obtain ⟨⟨-, b_g1_10⟩, ⟨-, b_g2_10⟩, ⟨-, b_g3_10⟩, -⟩ := hBs
   have s4_10 := (rest10 4 (not_of (by kernel_rfl))).trans s4_9
   have s6_10 := (rest10 6 (not_of (by kernel_rfl))).trans s6_9
   have s7_10 := (rest10 7 (not_of (by kernel_rfl))).trans s7_9
   have s8_10 := (rest10 8 (not_of (by kernel_rfl))).trans s8_9
   have s16_10 := (rest10 16 (not_of (by kernel_rfl))).trans s16_9
   have s82_10 : a10.tmps.getD 82 undef = .bool true := R10 1 _ rfl
   clear R10 rest10 hS hfl hPs hAs
   clear s4_9 s5_9 s6_9 s7_9 s8_9 s16_9 s67_9 b_g1_9 b_g2_9 b_g3_9 d9 z9
   refine wp_cond_true (show a10.tmps.getD 82 undef = .bool true from s82_10) ?_
   refine wp_seq ?_
   refine wp_regx (SX W w10.heap.size [⟨g1, 60, (cR a b c d), none, #[]⟩, ⟨g2, 60, (cR p q r t), none, #[]⟩, ⟨g3, 95, (cU 0 0), none, #[]⟩] []) (TabX [fun vx => vx = .bool true]) (by kernel_rfl) (back_of (by kernel_rfl)) (dst_of (by kernel_rfl)) (in_ofz (by kernel_rfl) z10) (fun fl w1 hfl hw => SX.start' hw B10 hfl rfl ⟨b_g1_10, b_g2_10, b_g3_10, trivial⟩) ?h60 ?_
   case h60 =>
     intro ix ox ax wx fl ho hS hfi clo hsz hrest hdone hund
     have t8 := (hrest 8 (not_of (by kernel_rfl))).trans s8_10
     have hs : ax.tmps.size = 119 := hsz.trans z10
     have hi : ix < 1 := (Array.getElem?_eq_some_iff.1 ho).1
     clear hrest hsz hund
     obtain rfl : ix = 0 := by omega
     all_goals obtain rfl := Option.some.inj (show some _ = some ox from ho)
     ·
      exact wpOp_val (v := .bool true) (w' := wx) rfl rfl (by simp [execOp, Act.eval, t8]) ⟨_, rfl, tab_put rfl hs rfl rfl, hS.same 0 rfl⟩
   intro a11 w11 fl d11 z11 rest11 R11 hfl hS
   obtain ⟨B11, n11, hBs, hAs, hPs⟩ := hS.finish hfl rfl
   replace d11 := d11.trans d10
   replace z11 := z11.trans z10
   obtain ⟨⟨-, b_g1_11⟩, ⟨-, b_g2_11⟩, ⟨-, b_g3_11⟩, -⟩ := hBs
   have s4_11 := (rest11 4 (not_of (by kernel_rfl))).trans s4_10
   have s6_11 := (rest11 6 (not_of (by kernel_rfl))).trans s6_10
   have s7_11 := (rest11 7 (not_of (by kernel_rfl))).trans s7_10
   have s84_11 : a11.tmps.getD 84 undef = .bool true := R11 0 _ rfl
   clear R11 rest11 hS hfl hPs hAs
   clear s4_10 s6_10 s7_10 s8_10 s16_10 s82_10 b_g1_10 b_g2_10 b_g3_10 d10 z10
   refine wp_cond_true (show a11.tmps.getD 84 undef = .bool true from s84_11) ?_
   refine wp_seq ?_
   refine wp_regx (SX W w11.heap.size [⟨g1, 60, (cR a b c d), none, #[]⟩, ⟨g2, 60, (cR p q r t), none, #[]⟩, ⟨g3, 95, (cU 0 0), some 9, (cU (a / 2 ^ Int.toNat ((Rg.oneV ⟨⟨p, q⟩, ⟨r, t⟩⟩) % 64)) (b / 2 ^ Int.toNat ((Rg.oneV ⟨⟨p, q⟩, ⟨r, t⟩⟩) % 64)))⟩] []) (TabX [fun vx => vx = .pointer (some ⟨g1, 0, none⟩), fun vx => vx = .int .u64 a, fun vx => vx = .int .u64 ((Rg.oneV ⟨⟨p, q⟩, ⟨r, t⟩⟩) % 64), fun vx => vx = .int .u64 (a / 2 ^ Int.toNat ((Rg.oneV ⟨⟨p, q⟩, ⟨r, t⟩⟩) % 64)), fun vx => vx = .pointer (some ⟨g1, 1, none⟩), fun vx => vx = .int .u64 b, fun vx => vx = .int .u64 ((Rg.oneV ⟨⟨p, q⟩, ⟨r, t⟩⟩) % 64), fun vx => vx = .int .u64 (b / 2 ^ Int.toNat ((Rg.oneV ⟨⟨p, q⟩, ⟨r, t⟩⟩) % 64)), fun vx => vx = .agg #[.int .u64 (a / 2 ^ Int.toNat ((Rg.oneV ⟨⟨p, q⟩, ⟨r, t⟩⟩) % 64)), .int .u64 (b / 2 ^ Int.toNat ((Rg.oneV ⟨⟨p, q⟩, ⟨r, t⟩⟩) % 64))], fun _ => True]) (by kernel_rfl) (back_of (by kernel_rfl)) (dst_of (by kernel_rfl)) (in_ofz (by kernel_rfl) z11) (fun fl w1 hfl hw => SX.start' hw B11 hfl rfl ⟨b_g1_11, b_g2_11, b_g3_11, trivial⟩) ?h61 ?_
   case h61 =>
     intro ix ox ax wx fl ho hS hfi clo hsz hrest hdone hund
     have t4 := (hrest 4 (not_of (by kernel_rfl))).trans s4_11
     have t6 := (hrest 6 (not_of (by kernel_rfl))).trans s6_11
     have t7 := (hrest 7 (not_of (by kernel_rfl))).trans s7_11
     have hs : ax.tmps.size = 119 := hsz.trans z11
     have hi : ix < 10 := (Array.getElem?_eq_some_iff.1 ho).1
     clear hrest hsz hund
     obtain rfl | rfl | rfl | rfl | rfl | rfl | rfl | rfl | rfl | rfl : ix = 0 ∨ ix = 1 ∨ ix = 2 ∨ ix = 3 ∨ ix = 4 ∨ ix = 5 ∨ ix = 6 ∨ ix = 7 ∨ ix = 8 ∨ ix = 9 := by omega
     all_goals obtain rfl := Option.some.inj (show some _ = some ox from ho)
     ·
      exact wpOp_val (v := .pointer (some ⟨g1, 0, none⟩)) (w' := wx) rfl rfl (by simp [execOp, Act.eval, t4, go_sem]) ⟨_, rfl, tab_put rfl hs rfl rfl, hS.same 0 rfl⟩
     ·
      have s85 : ax.tmps.getD 85 undef = .pointer (some ⟨g1, 0, none⟩) := (hdone 0 _ rfl rfl).2 _ rfl
      have hr := hS.rowNi 0 rfl
      have hc := exec_load1 (i := 0) hr (v := .int .u64 a) rfl
      exact wpOp_val (v := .int .u64 a) (w' := wx) rfl rfl (by simp [execOp, Act.eval, s85, hc, go_sem]) ⟨_, rfl, tab_put rfl hs rfl rfl, hS.same 1 rfl⟩
     ·
      exact wpOp_val (v := .int .u64 ((Rg.oneV ⟨⟨p, q⟩, ⟨r, t⟩⟩) % 64)) (w' := wx) rfl rfl (by simp [execOp, Act.eval, t7]) ⟨_, rfl, tab_put rfl hs rfl rfl, hS.same 2 rfl⟩
     ·
      have s86 : ax.tmps.getD 86 undef = .int .u64 a := (hdone 0 _ rfl rfl).2 _ rfl
      have s87 : ax.tmps.getD 87 undef = .int .u64 ((Rg.oneV ⟨⟨p, q⟩, ⟨r, t⟩⟩) % 64) := (hdone 1 _ rfl rfl).2 _ rfl
      exact wpOp_val (v := .int .u64 (a / 2 ^ Int.toNat ((Rg.oneV ⟨⟨p, q⟩, ⟨r, t⟩⟩) % 64))) (w' := wx) rfl rfl (exec_shr rfl (show ax.eval (.tmp 86) = .int .u64 a from s86) (show ax.eval (.tmp 87) = .int .u64 ((Rg.oneV ⟨⟨p, q⟩, ⟨r, t⟩⟩) % 64) from s87) HN.out.1 HN.out.2) ⟨_, rfl, tab_put rfl hs rfl rfl, hS.same 3 rfl⟩
     ·
      exact wpOp_val (v := .pointer (some ⟨g1, 1, none⟩)) (w' := wx) rfl rfl (by simp [execOp, Act.eval, t4, go_sem]) ⟨_, rfl, tab_put rfl hs rfl rfl, hS.same 4 rfl⟩
     ·
      have s89 : ax.tmps.getD 89 undef = .pointer (some ⟨g1, 1, none⟩) := (hdone 0 _ rfl rfl).2 _ rfl
      have hr := hS.rowNi 0 rfl
      have hc := exec_load1 (i := 1) hr (v := .int .u64 b) rfl
      exact wpOp_val (v := .int .u64 b) (w' := wx) rfl rfl (by simp [execOp, Act.eval, s89, hc, go_sem]) ⟨_, rfl, tab_put rfl hs rfl rfl, hS.same 5 rfl⟩
     ·
      exact wpOp_val (v := .int .u64 ((Rg.oneV ⟨⟨p, q⟩, ⟨r, t⟩⟩) % 64)) (w' := wx) rfl rfl (by simp [execOp, Act.eval, t7]) ⟨_, rfl, tab_put rfl hs rfl rfl, hS.same 6 rfl⟩
     ·
      have s90 : ax.tmps.getD 90 undef = .int .u64 b := (hdone 0 _ rfl rfl).2 _ rfl
      have s91 : ax.tmps.getD 91 undef = .int .u64 ((Rg.oneV ⟨⟨p, q⟩, ⟨r, t⟩⟩) % 64) := (hdone 1 _ rfl rfl).2 _ rfl
      exact wpOp_val (v := .int .u64 (b / 2 ^ Int.toNat ((Rg.oneV ⟨⟨p, q⟩, ⟨r, t⟩⟩) % 64))) (w' := wx) rfl rfl (exec_shr rfl (show ax.eval (.tmp 90) = .int .u64 b from s90) (show ax.eval (.tmp 91) = .int .u64 ((Rg.oneV ⟨⟨p, q⟩, ⟨r, t⟩⟩) % 64) from s91) HN.out.1 HN.out.2) ⟨_, rfl, tab_put rfl hs rfl rfl, hS.same 7 rfl⟩
     ·
      have s88 : ax.tmps.getD 88 undef = .int .u64 (a / 2 ^ Int.toNat ((Rg.oneV ⟨⟨p, q⟩, ⟨r, t⟩⟩) % 64)) := (hdone 0 _ rfl rfl).2 _ rfl
      have s92 : ax.tmps.getD 92 undef = .int .u64 (b / 2 ^ Int.toNat ((Rg.oneV ⟨⟨p, q⟩, ⟨r, t⟩⟩) % 64)) := (hdone 1 _ rfl rfl).2 _ rfl
      exact wpOp_val (v := .agg #[.int .u64 (a / 2 ^ Int.toNat ((Rg.oneV ⟨⟨p, q⟩, ⟨r, t⟩⟩) % 64)), .int .u64 (b / 2 ^ Int.toNat ((Rg.oneV ⟨⟨p, q⟩, ⟨r, t⟩⟩) % 64))]) (w' := wx) rfl rfl (exec_build rfl (parts2 (show ax.eval (.tmp 88) = .int .u64 (a / 2 ^ Int.toNat ((Rg.oneV ⟨⟨p, q⟩, ⟨r, t⟩⟩) % 64)) from s88) (show ax.eval (.tmp 92) = .int .u64 (b / 2 ^ Int.toNat ((Rg.oneV ⟨⟨p, q⟩, ⟨r, t⟩⟩) % 64)) from s92)) (by kernel_rfl)) ⟨_, rfl, tab_put rfl hs rfl rfl, hS.same 8 rfl⟩
     ·
      have s93 : ax.tmps.getD 93 undef = .agg #[.int .u64 (a / 2 ^ Int.toNat ((Rg.oneV ⟨⟨p, q⟩, ⟨r, t⟩⟩) % 64)), .int .u64 (b / 2 ^ Int.toNat ((Rg.oneV ⟨⟨p, q⟩, ⟨r, t⟩⟩) % 64))] := (hdone 0 _ rfl rfl).2 _ rfl
      have hr := hS.rowFi 2 rfl hfi
      exact wpOp_skp (w' := wx.setRow g3 #[.int .u64 (a / 2 ^ Int.toNat ((Rg.oneV ⟨⟨p, q⟩, ⟨r, t⟩⟩) % 64)), .int .u64 (b / 2 ^ Int.toNat ((Rg.oneV ⟨⟨p, q⟩, ⟨r, t⟩⟩) % 64))]) rfl rfl (exec_storeR 95 _ _ rfl g3 #[.int .u64 (a / 2 ^ Int.toNat ((Rg.oneV ⟨⟨p, q⟩, ⟨r, t⟩⟩) % 64)), .int .u64 (b / 2 ^ Int.toNat ((Rg.oneV ⟨⟨p, q⟩, ⟨r, t⟩⟩) % 64))] (show ax.eval (.tmp 6) = .pointer (some ⟨g3, 0, none⟩) from t6) (show ax.eval (.tmp 93) = .agg #[.int .u64 (a / 2 ^ Int.toNat ((Rg.oneV ⟨⟨p, q⟩, ⟨r, t⟩⟩) % 64)), .int .u64 (b / 2 ^ Int.toNat ((Rg.oneV ⟨⟨p, q⟩, ⟨r, t⟩⟩) % 64))] from s93) hr (by kernel_rfl) rfl (by simp [Value.oneCell'])) ⟨undef, rfl, trivial, hS.storeBi 9 2 rfl q_g3 rfl ⟨(show g1 ≠ g3 by omega), (show g2 ≠ g3 by omega), trivial⟩ (stored_setRow wx g3 _ _ _ hr)⟩
   intro a12 w12 fl d12 z12 rest12 R12 hfl hS
   obtain ⟨B12, n12, hBs, hAs, hPs⟩ := hS.finish hfl rfl
   replace d12 := d12.trans d11
   replace z12 := z12.trans z11
   obtain ⟨⟨-, b_g1_12⟩, ⟨-, b_g2_12⟩, ⟨-, b_g3_12⟩, -⟩ := hBs
   have s6_12 := (rest12 6 (not_of (by kernel_rfl))).trans s6_11
   clear R12 rest12 hS hfl hPs hAs
   clear s4_11 s6_11 s7_11 s84_11 b_g1_11 b_g2_11 b_g3_11 d11 z11
   refine wp_ret ?_
   try simp only [Exit.inBlock, Exit.then]
   refine bodyPost_ret (res_c (fn := Try.f92) rfl s6_12 (load_row 95 b_g3_12 Try.underlying95 rfl (by kernel_rfl))) d12 ?_
   have no5 := nb Ffk11.out
   have no4 := nb Ffk12.out
   have no10 := nb Ffk13.out
   have no3 := nb Ffk14.out
   have no9 := nb Ffk16.out
   have ho : op = 7 := yb Ffk18.out
   have HE : restU op ⟨⟨a, b⟩, ⟨c, d⟩⟩ ⟨⟨p, q⟩, ⟨r, t⟩⟩ = ⟨a / 2 ^ Int.toNat ((Rg.oneV ⟨⟨p, q⟩, ⟨r, t⟩⟩) % 64), b / 2 ^ Int.toNat ((Rg.oneV ⟨⟨p, q⟩, ⟨r, t⟩⟩) % 64)⟩ := by
     unfold restU
     rw [if_neg no5, if_neg no4, if_neg no10, if_neg no3, if_neg no9]
     rw [if_pos ho]
     rw [if_pos Ffk1.out]
     try rfl
   have HE2 : (.agg #[.int .u64 (a / 2 ^ Int.toNat ((Rg.oneV ⟨⟨p, q⟩, ⟨r, t⟩⟩) % 64)), .int .u64 (b / 2 ^ Int.toNat ((Rg.oneV ⟨⟨p, q⟩, ⟨r, t⟩⟩) % 64))] : Value) = .agg #[.int .u64 (restU op ⟨⟨a, b⟩, ⟨c, d⟩⟩ ⟨⟨p, q⟩, ⟨r, t⟩⟩).lo, .int .u64 (restU op ⟨⟨a, b⟩, ⟨c, d⟩⟩ ⟨⟨p, q⟩, ⟨r, t⟩⟩).hi] := by rw [HE]
   exact ⟨retV HE2, B12⟩
  have Ffk18 := Lib.hid fk18; clear fk18
  refine wp_regx (SX W w9.heap.size [⟨g1, 60, (cR a b c d), none, #[]⟩, ⟨g2, 60, (cR p q r t), none, #[]⟩, ⟨g3, 95, (cU 0 0), none, #[]⟩] []) (TabX [fun vx => vx = .bool false, fun vx => vx = .bool false]) (by kernel_rfl) (back_of (by kernel_rfl)) (dst_of (by kernel_rfl)) (in_ofz (by kernel_rfl) z9) (fun fl w1 hfl hw => SX.start' hw B9 hfl rfl ⟨b_g1_9, b_g2_9, b_g3_9, trivial⟩) ?h62 ?_
  case h62 =>
    intro ix ox ax wx fl ho hS hfi clo hsz hrest hdone hund
    have t16 := (hrest 16 (not_of (by kernel_rfl))).trans s16_9
    have hs : ax.tmps.size = 119 := hsz.trans z9
    have hi : ix < 2 := (Array.getElem?_eq_some_iff.1 ho).1
    clear hrest hsz hund
    obtain rfl | rfl : ix = 0 ∨ ix = 1 := by omega
    all_goals obtain rfl := Option.some.inj (show some _ = some ox from ho)
    ·
     exact wpOp_val (v := .bool (op == 7)) (w' := wx) rfl rfl (by (simp [execOp, Act.eval, t16, go_sem]; try (simp only [IntKind.wrap_i64, wrap64]))) ⟨_, rfl, tab_put rfl hs rfl (congrArg Value.bool Ffk18.out), hS.same 0 rfl⟩
    ·
     have s83 : ax.tmps.getD 83 undef = .bool false := (hdone 0 _ rfl rfl).2 _ rfl
     exact wpOp_val (v := .bool false) (w' := wx) rfl rfl (by simp [execOp, Act.eval, s83]) ⟨_, rfl, tab_put rfl hs rfl rfl, hS.same 1 rfl⟩
  intro a10 w10 fl d10 z10 rest10 R10 hfl hS
  obtain ⟨B10, n10, hBs, hAs, hPs⟩ := hS.finish hfl rfl
  replace d10 := d10.trans d9
  replace z10 := z10.trans z9
  obtain ⟨⟨-, b_g1_10⟩, ⟨-, b_g2_10⟩, ⟨-, b_g3_10⟩, -⟩ := hBs
  have s4_10 := (rest10 4 (not_of (by kernel_rfl))).trans s4_9
  have s6_10 := (rest10 6 (not_of (by kernel_rfl))).trans s6_9
  have s7_10 := (rest10 7 (not_of (by kernel_rfl))).trans s7_9
  have s8_10 := (rest10 8 (not_of (by kernel_rfl))).trans s8_9
  have s16_10 := (rest10 16 (not_of (by kernel_rfl))).trans s16_9
  have s82_10 : a10.tmps.getD 82 undef = .bool false := R10 1 _ rfl
  clear R10 rest10 hS hfl hPs hAs
  clear s4_9 s5_9 s6_9 s7_9 s8_9 s16_9 s67_9 b_g1_9 b_g2_9 b_g3_9 d9 z9
  refine wp_cond_false (show a10.tmps.getD 82 undef = .bool false from s82_10) ?_
  refine wp_seq ?_
  cases fk19 : op == 6
  case true =>
   have Ffk19 := Lib.hid fk19; clear fk19
   refine wp_regx (SX W w10.heap.size [⟨g1, 60, (cR a b c d), none, #[]⟩, ⟨g2, 60, (cR p q r t), none, #[]⟩, ⟨g3, 95, (cU 0 0), none, #[]⟩] []) (TabX [fun vx => vx = .bool true, fun vx => vx = .bool true]) (by kernel_rfl) (back_of (by kernel_rfl)) (dst_of (by kernel_rfl)) (in_ofz (by kernel_rfl) z10) (fun fl w1 hfl hw => SX.start' hw B10 hfl rfl ⟨b_g1_10, b_g2_10, b_g3_10, trivial⟩) ?h63 ?_
   case h63 =>
     intro ix ox ax wx fl ho hS hfi clo hsz hrest hdone hund
     have t16 := (hrest 16 (not_of (by kernel_rfl))).trans s16_10
     have hs : ax.tmps.size = 119 := hsz.trans z10
     have hi : ix < 2 := (Array.getElem?_eq_some_iff.1 ho).1
     clear hrest hsz hund
     obtain rfl | rfl : ix = 0 ∨ ix = 1 := by omega
     all_goals obtain rfl := Option.some.inj (show some _ = some ox from ho)
     ·
      exact wpOp_val (v := .bool (op == 6)) (w' := wx) rfl rfl (by (simp [execOp, Act.eval, t16, go_sem]; try (simp only [IntKind.wrap_i64, wrap64]))) ⟨_, rfl, tab_put rfl hs rfl (congrArg Value.bool Ffk19.out), hS.same 0 rfl⟩
     ·
      have s95 : ax.tmps.getD 95 undef = .bool true := (hdone 0 _ rfl rfl).2 _ rfl
      exact wpOp_val (v := .bool true) (w' := wx) rfl rfl (by simp [execOp, Act.eval, s95]) ⟨_, rfl, tab_put rfl hs rfl rfl, hS.same 1 rfl⟩
   intro a11 w11 fl d11 z11 rest11 R11 hfl hS
   obtain ⟨B11, n11, hBs, hAs, hPs⟩ := hS.finish hfl rfl
   replace d11 := d11.trans d10
   replace z11 := z11.trans z10
   obtain ⟨⟨-, b_g1_11⟩, ⟨-, b_g2_11⟩, ⟨-, b_g3_11⟩, -⟩ := hBs
   have s4_11 := (rest11 4 (not_of (by kernel_rfl))).trans s4_10
   have s6_11 := (rest11 6 (not_of (by kernel_rfl))).trans s6_10
   have s7_11 := (rest11 7 (not_of (by kernel_rfl))).trans s7_10
   have s8_11 := (rest11 8 (not_of (by kernel_rfl))).trans s8_10
   have s94_11 : a11.tmps.getD 94 undef = .bool true := R11 1 _ rfl
   clear R11 rest11 hS hfl hPs hAs
   clear s4_10 s6_10 s7_10 s8_10 s16_10 s82_10 b_g1_10 b_g2_10 b_g3_10 d10 z10
   refine wp_cond_true (show a11.tmps.getD 94 undef = .bool true from s94_11) ?_
   refine wp_seq ?_
   cases fk20 : (((b * 2 ^ Int.toNat ((Rg.oneV ⟨⟨p, q⟩, ⟨r, t⟩⟩) % 64)) % 18446744073709551616) / 2 ^ Int.toNat ((Rg.oneV ⟨⟨p, q⟩, ⟨r, t⟩⟩) % 64)) == b
   case false =>
    have Ffk20 := Lib.hid fk20; clear fk20
    refine wp_regx (SX W w11.heap.size [⟨g1, 60, (cR a b c d), none, #[]⟩, ⟨g2, 60, (cR p q r t), none, #[]⟩, ⟨g3, 95, (cU 0 0), none, #[]⟩] []) (TabX [fun vx => vx = .bool true, fun vx => vx = .bool true, fun vx => vx = .pointer (some ⟨g1, 1, none⟩), fun vx => vx = .int .u64 b, fun vx => vx = .int .u64 ((Rg.oneV ⟨⟨p, q⟩, ⟨r, t⟩⟩) % 64), fun vx => vx = .int .u64 ((b * 2 ^ Int.toNat ((Rg.oneV ⟨⟨p, q⟩, ⟨r, t⟩⟩) % 64)) % 18446744073709551616), fun vx => vx = .int .u64 ((Rg.oneV ⟨⟨p, q⟩, ⟨r, t⟩⟩) % 64), fun vx => vx = .int .u64 (((b * 2 ^ Int.toNat ((Rg.oneV ⟨⟨p, q⟩, ⟨r, t⟩⟩) % 64)) % 18446744073709551616) / 2 ^ Int.toNat ((Rg.oneV ⟨⟨p, q⟩, ⟨r, t⟩⟩) % 64)), fun vx => vx = .pointer (some ⟨g1, 1, none⟩), fun vx => vx = .int .u64 b, fun vx => vx = .bool false, fun vx => vx = .bool false]) (by kernel_rfl) (back_of (by kernel_rfl)) (dst_of (by kernel_rfl)) (in_ofz (by kernel_rfl) z11) (fun fl w1 hfl hw => SX.start' hw B11 hfl rfl ⟨b_g1_11, b_g2_11, b_g3_11, trivial⟩) ?h64 ?_
    case h64 =>
      intro ix ox ax wx fl ho hS hfi clo hsz hrest hdone hund
      have t4 := (hrest 4 (not_of (by kernel_rfl))).trans s4_11
      have t7 := (hrest 7 (not_of (by kernel_rfl))).trans s7_11
      have t8 := (hrest 8 (not_of (by kernel_rfl))).trans s8_11
      have hs : ax.tmps.size = 119 := hsz.trans z11
      have hi : ix < 12 := (Array.getElem?_eq_some_iff.1 ho).1
      clear hrest hsz hund
      obtain rfl | rfl | rfl | rfl | rfl | rfl | rfl | rfl | rfl | rfl | rfl | rfl : ix = 0 ∨ ix = 1 ∨ ix = 2 ∨ ix = 3 ∨ ix = 4 ∨ ix = 5 ∨ ix = 6 ∨ ix = 7 ∨ ix = 8 ∨ ix = 9 ∨ ix = 10 ∨ ix = 11 := by omega
      all_goals obtain rfl := Option.some.inj (show some _ = some ox from ho)
      ·
       exact wpOp_val (v := .bool true) (w' := wx) rfl rfl (by simp [execOp, Act.eval, t8]) ⟨_, rfl, tab_put rfl hs rfl rfl, hS.same 0 rfl⟩
      ·
       have s96 : ax.tmps.getD 96 undef = .bool true := (hdone 0 _ rfl rfl).2 _ rfl
       exact wpOp_val (v := .bool true) (w' := wx) rfl rfl (by simp [execOp, Act.eval, s96]) ⟨_, rfl, tab_put rfl hs rfl rfl, hS.same 1 rfl⟩
      ·
       have hg : ax.tmps.getD 97 undef = .bool true := (hdone 0 _ rfl rfl).2 _ rfl
       exact wpOp_valw (v := .pointer (some ⟨g1, 1, none⟩)) (w' := wx) rfl (wanted_yes 1 97 true hg (by rw [hs]; omega) rfl rfl rfl rfl) (by simp [execOp, Act.eval, t4, go_sem]) ⟨_, rfl, tab_put rfl hs rfl rfl, hS.same 2 rfl⟩
      ·
       have hg : ax.tmps.getD 97 undef = .bool true := (hdone 1 _ rfl rfl).2 _ rfl
       have s98 : ax.tmps.getD 98 undef = .pointer (some ⟨g1, 1, none⟩) := (hdone 0 _ rfl rfl).2 _ rfl
       have hr := hS.rowNi 0 rfl
       have hc := exec_load1 (i := 1) hr (v := .int .u64 b) rfl
       exact wpOp_valw (v := .int .u64 b) (w' := wx) rfl (wanted_yes 1 97 true hg (by rw [hs]; omega) rfl rfl rfl rfl) (by simp [execOp, Act.eval, s98, hc, go_sem]) ⟨_, rfl, tab_put rfl hs rfl rfl, hS.same 3 rfl⟩
      ·
       have hg : ax.tmps.getD 97 undef = .bool true := (hdone 0 _ rfl rfl).2 _ rfl
       exact wpOp_valw (v := .int .u64 ((Rg.oneV ⟨⟨p, q⟩, ⟨r, t⟩⟩) % 64)) (w' := wx) rfl (wanted_yes 1 97 true hg (by rw [hs]; omega) rfl rfl rfl rfl) (by simp [execOp, Act.eval, t7]) ⟨_, rfl, tab_put rfl hs rfl rfl, hS.same 4 rfl⟩
      ·
       have hg : ax.tmps.getD 97 undef = .bool true := (hdone 2 _ rfl rfl).2 _ rfl
       have s99 : ax.tmps.getD 99 undef = .int .u64 b := (hdone 0 _ rfl rfl).2 _ rfl
       have s100 : ax.tmps.getD 100 undef = .int .u64 ((Rg.oneV ⟨⟨p, q⟩, ⟨r, t⟩⟩) % 64) := (hdone 1 _ rfl rfl).2 _ rfl
       exact wpOp_valw (v := .int .u64 ((b * 2 ^ Int.toNat ((Rg.oneV ⟨⟨p, q⟩, ⟨r, t⟩⟩) % 64)) % 18446744073709551616)) (w' := wx) rfl (wanted_yes 1 97 true hg (by rw [hs]; omega) rfl rfl rfl rfl) (exec_shl rfl (show ax.eval (.tmp 99) = .int .u64 b from s99) (show ax.eval (.tmp 100) = .int .u64 ((Rg.oneV ⟨⟨p, q⟩, ⟨r, t⟩⟩) % 64) from s100) HN.out.1 HN.out.2) ⟨_, rfl, tab_put rfl hs rfl rfl, hS.same 5 rfl⟩
      ·
       have hg : ax.tmps.getD 97 undef = .bool true := (hdone 0 _ rfl rfl).2 _ rfl
       exact wpOp_valw (v := .int .u64 ((Rg.oneV ⟨⟨p, q⟩, ⟨r, t⟩⟩) % 64)) (w' := wx) rfl (wanted_yes 1 97 true hg (by rw [hs]; omega) rfl rfl rfl rfl) (by simp [execOp, Act.eval, t7]) ⟨_, rfl, tab_put rfl hs rfl rfl, hS.same 6 rfl⟩
      ·
       have hg : ax.tmps.getD 97 undef = .bool true := (hdone 2 _ rfl rfl).2 _ rfl
       have s101 : ax.tmps.getD 101 undef = .int .u64 ((b * 2 ^ Int.toNat ((Rg.oneV ⟨⟨p, q⟩, ⟨r, t⟩⟩) % 64)) % 18446744073709551616) := (hdone 0 _ rfl rfl).2 _ rfl
       have s102 : ax.tmps.getD 102 undef = .int .u64 ((Rg.oneV ⟨⟨p, q⟩, ⟨r, t⟩⟩) % 64) := (hdone 1 _ rfl rfl).2 _ rfl
       exact wpOp_valw (v := .int .u64 (((b * 2 ^ Int.toNat ((Rg.oneV ⟨⟨p, q⟩, ⟨r, t⟩⟩) % 64)) % 18446744073709551616) / 2 ^ Int.toNat ((Rg.oneV ⟨⟨p, q⟩, ⟨r, t⟩⟩) % 64))) (w' := wx) rfl (wanted_yes 1 97 true hg (by rw [hs]; omega) rfl rfl rfl rfl) (exec_shr rfl (show ax.eval (.tmp 101) = .int .u64 ((b * 2 ^ Int.toNat ((Rg.oneV ⟨⟨p, q⟩, ⟨r, t⟩⟩) % 64)) % 18446744073709551616) from s101) (show ax.eval (.tmp 102) = .int .u64 ((Rg.oneV ⟨⟨p, q⟩, ⟨r, t⟩⟩) % 64) from s102) HN.out.1 HN.out.2) ⟨_, rfl, tab_put rfl hs rfl rfl, hS.same 7 rfl⟩
      ·
       have hg : ax.tmps.getD 97 undef = .bool true := (hdone 0 _ rfl rfl).2 _ rfl
       exact wpOp_valw (v := .pointer (some ⟨g1, 1, none⟩)) (w' := wx) rfl (wanted_yes 1 97 true hg (by rw [hs]; omega) rfl rfl rfl rfl) (by simp [execOp, Act.eval, t4, go_sem]) ⟨_, rfl, tab_put rfl hs rfl rfl, hS.same 8 rfl⟩
      ·
       have hg : ax.tmps.getD 97 undef = .bool true := (hdone 1 _ rfl rfl).2 _ rfl
       have s104 : ax.tmps.getD 104 undef = .pointer (some ⟨g1, 1, none⟩) := (hdone 0 _ rfl rfl).2 _ rfl
       have hr := hS.rowNi 0 rfl
       have hc := exec_load1 (i := 1) hr (v := .int .u64 b) rfl
       exact wpOp_valw (v := .int .u64 b) (w' := wx) rfl (wanted_yes 1 97 true hg (by rw [hs]; omega) rfl rfl rfl rfl) (by simp [execOp, Act.eval, s104, hc, go_sem]) ⟨_, rfl, tab_put rfl hs rfl rfl, hS.same 9 rfl⟩
      ·
       have hg : ax.tmps.getD 97 undef = .bool true := (hdone 2 _ rfl rfl).2 _ rfl
       have s103 : ax.tmps.getD 103 undef = .int .u64 (((b * 2 ^ Int.toNat ((Rg.oneV ⟨⟨p, q⟩, ⟨r, t⟩⟩) % 64)) % 18446744073709551616) / 2 ^ Int.toNat ((Rg.oneV ⟨⟨p, q⟩, ⟨r, t⟩⟩) % 64)) := (hdone 0 _ rfl rfl).2 _ rfl
       have s105 : ax.tmps.getD 105 undef = .int .u64 b := (hdone 1 _ rfl rfl).2 _ rfl
       exact wpOp_valw (v := .bool ((((b * 2 ^ Int.toNat ((Rg.oneV ⟨⟨p, q⟩, ⟨r, t⟩⟩) % 64)) % 18446744073709551616) / 2 ^ Int.toNat ((Rg.oneV ⟨⟨p, q⟩, ⟨r, t⟩⟩) % 64)) == b)) (w' := wx) rfl (wanted_yes 1 97 true hg (by rw [hs]; omega) rfl rfl rfl rfl) (by (simp [execOp, Act.eval, s103, s105, go_sem]; try (simp only [IntKind.wrap_i64, wrap64]))) ⟨_, rfl, tab_put rfl hs rfl (congrArg Value.bool Ffk20.out), hS.same 10 rfl⟩
      ·
       have s97 : ax.tmps.getD 97 undef = .bool true := (hdone 0 _ rfl rfl).2 _ rfl
       have s106 : ax.tmps.getD 106 undef = .bool false := (hdone 1 _ rfl rfl).2 _ rfl
       exact wpOp_val (v := .bool false) (w' := wx) rfl rfl (by simp [execOp, Act.eval, s97, s106, go_sem]) ⟨_, rfl, tab_put rfl hs rfl rfl, hS.same 11 rfl⟩
    intro a12 w12 fl d12 z12 rest12 R12 hfl hS
    obtain ⟨B12, n12, hBs, hAs, hPs⟩ := hS.finish hfl rfl
    replace d12 := d12.trans d11
    replace z12 := z12.trans z11
    obtain ⟨⟨-, b_g1_12⟩, ⟨-, b_g2_12⟩, ⟨-, b_g3_12⟩, -⟩ := hBs
    have s4_12 := (rest12 4 (not_of (by kernel_rfl))).trans s4_11
    have s6_12 := (rest12 6 (not_of (by kernel_rfl))).trans s6_11
    have s7_12 := (rest12 7 (not_of (by kernel_rfl))).trans s7_11
    have s107_12 : a12.tmps.getD 107 undef = .bool false := R12 11 _ rfl
    clear R12 rest12 hS hfl hPs hAs
    clear s4_11 s6_11 s7_11 s8_11 s94_11 b_g1_11 b_g2_11 b_g3_11 d11 z11
    refine wp_cond_false (show a12.tmps.getD 107 undef = .bool false from s107_12) ?_
    refine wp_skip ?_
    refine wp_seq ?_
    refine wp_regx (SX W w12.heap.size [⟨g1, 60, (cR a b c d), none, #[]⟩, ⟨g2, 60, (cR p q r t), none, #[]⟩, ⟨g3, 95, (cU 0 0), some 2, (cU allR.u.lo allR.u.hi)⟩] []) (TabX [fun vx => vx = .agg #[.int .u64 allR.u.lo, .int .u64 allR.u.hi, .int .i64 allR.s.lo, .int .i64 allR.s.hi], fun vx => vx = .agg #[.int .u64 allR.u.lo, .int .u64 allR.u.hi], fun _ => True]) (by kernel_rfl) (back_of (by kernel_rfl)) (dst_of (by kernel_rfl)) (in_ofz (by kernel_rfl) z12) (fun fl w1 hfl hw => SX.start' hw B12 hfl rfl ⟨b_g1_12, b_g2_12, b_g3_12, trivial⟩) ?h65 ?_
    case h65 =>
      intro ix ox ax wx fl ho hS hfi clo hsz hrest hdone hund
      have t6 := (hrest 6 (not_of (by kernel_rfl))).trans s6_12
      have hs : ax.tmps.size = 119 := hsz.trans z12
      have hi : ix < 3 := (Array.getElem?_eq_some_iff.1 ho).1
      clear hrest hsz hund
      obtain rfl | rfl | rfl : ix = 0 ∨ ix = 1 ∨ ix = 2 := by omega
      all_goals obtain rfl := Option.some.inj (show some _ = some ox from ho)
      ·
       refine wpOp_call (args := #[]) rfl rfl (exec_call rfl rfl rfl (args0 ) Try.func32 (by decide +kernel) rfl) ?_
       · refine (all_n wx).mono ?_
         rintro e w' ⟨rfl, b9⟩
         exact ⟨_, rfl, _, rfl, tab_put rfl hs rfl rfl, hS.quiet 0 rfl b9⟩
      ·
       have s117 : ax.tmps.getD 117 undef = .agg #[.int .u64 allR.u.lo, .int .u64 allR.u.hi, .int .i64 allR.s.lo, .int .i64 allR.s.hi] := (hdone 0 _ rfl rfl).2 _ rfl
       refine wpOp_call (args := #[.agg #[.int .u64 allR.u.lo, .int .u64 allR.u.hi, .int .i64 allR.s.lo, .int .i64 allR.s.hi]]) rfl rfl (exec_call rfl rfl rfl (args1 (show ax.eval (.tmp 117) = .agg #[.int .u64 allR.u.lo, .int .u64 allR.u.hi, .int .i64 allR.s.lo, .int .i64 allR.s.hi] from s117)) Try.func61 (by decide +kernel) rfl) ?_
       · refine (unsigned_n allR.u.lo allR.u.hi allR.s.lo allR.s.hi wx).mono ?_
         rintro e w' ⟨rfl, b9⟩
         exact ⟨_, rfl, _, rfl, tab_put rfl hs rfl rfl, hS.quiet 1 rfl b9⟩
      ·
       have s118 : ax.tmps.getD 118 undef = .agg #[.int .u64 allR.u.lo, .int .u64 allR.u.hi] := (hdone 0 _ rfl rfl).2 _ rfl
       have hr := hS.rowFi 2 rfl hfi
       exact wpOp_skp (w' := wx.setRow g3 #[.int .u64 allR.u.lo, .int .u64 allR.u.hi]) rfl rfl (exec_storeR 95 _ _ rfl g3 #[.int .u64 allR.u.lo, .int .u64 allR.u.hi] (show ax.eval (.tmp 6) = .pointer (some ⟨g3, 0, none⟩) from t6) (show ax.eval (.tmp 118) = .agg #[.int .u64 allR.u.lo, .int .u64 allR.u.hi] from s118) hr (by kernel_rfl) rfl (by simp [Value.oneCell'])) ⟨undef, rfl, trivial, hS.storeBi 2 2 rfl q_g3 rfl ⟨(show g1 ≠ g3 by omega), (show g2 ≠ g3 by omega), trivial⟩ (stored_setRow wx g3 _ _ _ hr)⟩
    intro a13 w13 fl d13 z13 rest13 R13 hfl hS
    obtain ⟨B13, n13, hBs, hAs, hPs⟩ := hS.finish hfl rfl
    replace d13 := d13.trans d12
    replace z13 := z13.trans z12
    obtain ⟨⟨-, b_g1_13⟩, ⟨-, b_g2_13⟩, ⟨-, b_g3_13⟩, -⟩ := hBs
    have s6_13 := (rest13 6 (not_of (by kernel_rfl))).trans s6_12
    clear R13 rest13 hS hfl hPs hAs
    clear s4_12 s6_12 s7_12 s107_12 b_g1_12 b_g2_12 b_g3_12 d12 z12
    refine wp_ret ?_
    try simp only [Exit.inBlock, Exit.then]
    refine bodyPost_ret (res_c (fn := Try.f92) rfl s6_13 (load_row 95 b_g3_13 Try.underlying95 rfl (by kernel_rfl))) d13 ?_
    have no5 := nb Ffk11.out
    have no4 := nb Ffk12.out
    have no10 := nb Ffk13.out
    have no3 := nb Ffk14.out
    have no9 := nb Ffk16.out
    have no7 := nb Ffk18.out
    have ho : op = 6 := yb Ffk19.out
    have HE : restU op ⟨⟨a, b⟩, ⟨c, d⟩⟩ ⟨⟨p, q⟩, ⟨r, t⟩⟩ = ⟨allR.u.lo, allR.u.hi⟩ := by
      unfold restU
      rw [if_neg no5, if_neg no4, if_neg no10, if_neg no3, if_neg no9, if_neg no7]
      rw [if_pos ho]
      rw [if_neg (by rw [Ffk1.out, ← HF.out, Ffk20.out]; decide)]
      try rfl
    have HE2 : (.agg #[.int .u64 allR.u.lo, .int .u64 allR.u.hi] : Value) = .agg #[.int .u64 (restU op ⟨⟨a, b⟩, ⟨c, d⟩⟩ ⟨⟨p, q⟩, ⟨r, t⟩⟩).lo, .int .u64 (restU op ⟨⟨a, b⟩, ⟨c, d⟩⟩ ⟨⟨p, q⟩, ⟨r, t⟩⟩).hi] := by rw [HE]
    exact ⟨retV HE2, B13⟩
   have Ffk20 := Lib.hid fk20; clear fk20
   refine wp_regx (SX W w11.heap.size [⟨g1, 60, (cR a b c d), none, #[]⟩, ⟨g2, 60, (cR p q r t), none, #[]⟩, ⟨g3, 95, (cU 0 0), none, #[]⟩] []) (TabX [fun vx => vx = .bool true, fun vx => vx = .bool true, fun vx => vx = .pointer (some ⟨g1, 1, none⟩), fun vx => vx = .int .u64 b, fun vx => vx = .int .u64 ((Rg.oneV ⟨⟨p, q⟩, ⟨r, t⟩⟩) % 64), fun vx => vx = .int .u64 ((b * 2 ^ Int.toNat ((Rg.oneV ⟨⟨p, q⟩, ⟨r, t⟩⟩) % 64)) % 18446744073709551616), fun vx => vx = .int .u64 ((Rg.oneV ⟨⟨p, q⟩, ⟨r, t⟩⟩) % 64), fun vx => vx = .int .u64 (((b * 2 ^ Int.toNat ((Rg.oneV ⟨⟨p, q⟩, ⟨r, t⟩⟩) % 64)) % 18446744073709551616) / 2 ^ Int.toNat ((Rg.oneV ⟨⟨p, q⟩, ⟨r, t⟩⟩) % 64)), fun vx => vx = .pointer (some ⟨g1, 1, none⟩), fun vx => vx = .int .u64 b, fun vx => vx = .bool true, fun vx => vx = .bool true]) (by kernel_rfl) (back_of (by kernel_rfl)) (dst_of (by kernel_rfl)) (in_ofz (by kernel_rfl) z11) (fun fl w1 hfl hw => SX.start' hw B11 hfl rfl ⟨b_g1_11, b_g2_11, b_g3_11, trivial⟩) ?h66 ?_
   case h66 =>
     intro ix ox ax wx fl ho hS hfi clo hsz hrest hdone hund
     have t4 := (hrest 4 (not_of (by kernel_rfl))).trans s4_11
     have t7 := (hrest 7 (not_of (by kernel_rfl))).trans s7_11
     have t8 := (hrest 8 (not_of (by kernel_rfl))).trans s8_11
     have hs : ax.tmps.size = 119 := hsz.trans z11
     have hi : ix < 12 := (Array.getElem?_eq_some_iff.1 ho).1
     clear hrest hsz hund
     obtain rfl | rfl | rfl | rfl | rfl | rfl | rfl | rfl | rfl | rfl | rfl | rfl : ix = 0 ∨ ix = 1 ∨ ix = 2 ∨ ix = 3 ∨ ix = 4 ∨ ix = 5 ∨ ix = 6 ∨ ix = 7 ∨ ix = 8 ∨ ix = 9 ∨ ix = 10 ∨ ix = 11 := by omega
     all_goals obtain rfl := Option.some.inj (show some _ = some ox from ho)
     ·
      exact wpOp_val (v := .bool true) (w' := wx) rfl rfl (by simp [execOp, Act.eval, t8]) ⟨_, rfl, tab_put rfl hs rfl rfl, hS.same 0 rfl⟩
     ·
      have s96 : ax.tmps.getD 96 undef = .bool true := (hdone 0 _ rfl rfl).2 _ rfl
      exact wpOp_val (v := .bool true) (w' := wx) rfl rfl (by simp [execOp, Act.eval, s96]) ⟨_, rfl, tab_put rfl hs rfl rfl, hS.same 1 rfl⟩
     ·
      have hg : ax.tmps.getD 97 undef = .bool true := (hdone 0 _ rfl rfl).2 _ rfl
      exact wpOp_valw (v := .pointer (some ⟨g1, 1, none⟩)) (w' := wx) rfl (wanted_yes 1 97 true hg (by rw [hs]; omega) rfl rfl rfl rfl) (by simp [execOp, Act.eval, t4, go_sem]) ⟨_, rfl, tab_put rfl hs rfl rfl, hS.same 2 rfl⟩
     ·
      have hg : ax.tmps.getD 97 undef = .bool true := (hdone 1 _ rfl rfl).2 _ rfl
      have s98 : ax.tmps.getD 98 undef = .pointer (some ⟨g1, 1, none⟩) := (hdone 0 _ rfl rfl).2 _ rfl
      have hr := hS.rowNi 0 rfl
      have hc := exec_load1 (i := 1) hr (v := .int .u64 b) rfl
      exact wpOp_valw (v := .int .u64 b) (w' := wx) rfl (wanted_yes 1 97 true hg (by rw [hs]; omega) rfl rfl rfl rfl) (by simp [execOp, Act.eval, s98, hc, go_sem]) ⟨_, rfl, tab_put rfl hs rfl rfl, hS.same 3 rfl⟩
     ·
      have hg : ax.tmps.getD 97 undef = .bool true := (hdone 0 _ rfl rfl).2 _ rfl
      exact wpOp_valw (v := .int .u64 ((Rg.oneV ⟨⟨p, q⟩, ⟨r, t⟩⟩) % 64)) (w' := wx) rfl (wanted_yes 1 97 true hg (by rw [hs]; omega) rfl rfl rfl rfl) (by simp [execOp, Act.eval, t7]) ⟨_, rfl, tab_put rfl hs rfl rfl, hS.same 4 rfl⟩
     ·
      have hg : ax.tmps.getD 97 undef = .bool true := (hdone 2 _ rfl rfl).2 _ rfl
      have s99 : ax.tmps.getD 99 undef = .int .u64 b := (hdone 0 _ rfl rfl).2 _ rfl
      have s100 : ax.tmps.getD 100 undef = .int .u64 ((Rg.oneV ⟨⟨p, q⟩, ⟨r, t⟩⟩) % 64) := (hdone 1 _ rfl rfl).2 _ rfl
      exact wpOp_valw (v := .int .u64 ((b * 2 ^ Int.toNat ((Rg.oneV ⟨⟨p, q⟩, ⟨r, t⟩⟩) % 64)) % 18446744073709551616)) (w' := wx) rfl (wanted_yes 1 97 true hg (by rw [hs]; omega) rfl rfl rfl rfl) (exec_shl rfl (show ax.eval (.tmp 99) = .int .u64 b from s99) (show ax.eval (.tmp 100) = .int .u64 ((Rg.oneV ⟨⟨p, q⟩, ⟨r, t⟩⟩) % 64) from s100) HN.out.1 HN.out.2) ⟨_, rfl, tab_put rfl hs rfl rfl, hS.same 5 rfl⟩
     ·
      have hg : ax.tmps.getD 97 undef = .bool true := (hdone 0 _ rfl rfl).2 _ rfl
      exact wpOp_valw (v := .int .u64 ((Rg.oneV ⟨⟨p, q⟩, ⟨r, t⟩⟩) % 64)) (w' := wx) rfl (wanted_yes 1 97 true hg (by rw [hs]; omega) rfl rfl rfl rfl) (by simp [execOp, Act.eval, t7]) ⟨_, rfl, tab_put rfl hs rfl rfl, hS.same 6 rfl⟩
     ·
      have hg : ax.tmps.getD 97 undef = .bool true := (hdone 2 _ rfl rfl).2 _ rfl
      have s101 : ax.tmps.getD 101 undef = .int .u64 ((b * 2 ^ Int.toNat ((Rg.oneV ⟨⟨p, q⟩, ⟨r, t⟩⟩) % 64)) % 18446744073709551616) := (hdone 0 _ rfl rfl).2 _ rfl
      have s102 : ax.tmps.getD 102 undef = .int .u64 ((Rg.oneV ⟨⟨p, q⟩, ⟨r, t⟩⟩) % 64) := (hdone 1 _ rfl rfl).2 _ rfl
      exact wpOp_valw (v := .int .u64 (((b * 2 ^ Int.toNat ((Rg.oneV ⟨⟨p, q⟩, ⟨r, t⟩⟩) % 64)) % 18446744073709551616) / 2 ^ Int.toNat ((Rg.oneV ⟨⟨p, q⟩, ⟨r, t⟩⟩) % 64))) (w' := wx) rfl (wanted_yes 1 97 true hg (by rw [hs]; omega) rfl rfl rfl rfl) (exec_shr rfl (show ax.eval (.tmp 101) = .int .u64 ((b * 2 ^ Int.toNat ((Rg.oneV ⟨⟨p, q⟩, ⟨r, t⟩⟩) % 64)) % 18446744073709551616) from s101) (show ax.eval (.tmp 102) = .int .u64 ((Rg.oneV ⟨⟨p, q⟩, ⟨r, t⟩⟩) % 64) from s102) HN.out.1 HN.out.2) ⟨_, rfl, tab_put rfl hs rfl rfl, hS.same 7 rfl⟩
     ·
      have hg : ax.tmps.getD 97 undef = .bool true := (hdone 0 _ rfl rfl).2 _ rfl
      exact wpOp_valw (v := .pointer (some ⟨g1, 1, none⟩)) (w' := wx) rfl (wanted_yes 1 97 true hg (by rw [hs]; omega) rfl rfl rfl rfl) (by simp [execOp, Act.eval, t4, go_sem]) ⟨_, rfl, tab_put rfl hs rfl rfl, hS.same 8 rfl⟩
     ·
      have hg : ax.tmps.getD 97 undef = .bool true := (hdone 1 _ rfl rfl).2 _ rfl
      have s104 : ax.tmps.getD 104 undef = .pointer (some ⟨g1, 1, none⟩) := (hdone 0 _ rfl rfl).2 _ rfl
      have hr := hS.rowNi 0 rfl
      have hc := exec_load1 (i := 1) hr (v := .int .u64 b) rfl
      exact wpOp_valw (v := .int .u64 b) (w' := wx) rfl (wanted_yes 1 97 true hg (by rw [hs]; omega) rfl rfl rfl rfl) (by simp [execOp, Act.eval, s104, hc, go_sem]) ⟨_, rfl, tab_put rfl hs rfl rfl, hS.same 9 rfl⟩
     ·
      have hg : ax.tmps.getD 97 undef = .bool true := (hdone 2 _ rfl rfl).2 _ rfl
      have s103 : ax.tmps.getD 103 undef = .int .u64 (((b * 2 ^ Int.toNat ((Rg.oneV ⟨⟨p, q⟩, ⟨r, t⟩⟩) % 64)) % 18446744073709551616) / 2 ^ Int.toNat ((Rg.oneV ⟨⟨p, q⟩, ⟨r, t⟩⟩) % 64)) := (hdone 0 _ rfl rfl).2 _ rfl
      have s105 : ax.tmps.getD 105 undef = .int .u64 b := (hdone 1 _ rfl rfl).2 _ rfl
      exact wpOp_valw (v := .bool ((((b * 2 ^ Int.toNat ((Rg.oneV ⟨⟨p, q⟩, ⟨r, t⟩⟩) % 64)) % 18446744073709551616) / 2 ^ Int.toNat ((Rg.oneV ⟨⟨p, q⟩, ⟨r, t⟩⟩) % 64)) == b)) (w' := wx) rfl (wanted_yes 1 97 true hg (by rw [hs]; omega) rfl rfl rfl rfl) (by (simp [execOp, Act.eval, s103, s105, go_sem]; try (simp only [IntKind.wrap_i64, wrap64]))) ⟨_, rfl, tab_put rfl hs rfl (congrArg Value.bool Ffk20.out), hS.same 10 rfl⟩
     ·
      have s97 : ax.tmps.getD 97 undef = .bool true := (hdone 0 _ rfl rfl).2 _ rfl
      have s106 : ax.tmps.getD 106 undef = .bool true := (hdone 1 _ rfl rfl).2 _ rfl
      exact wpOp_val (v := .bool true) (w' := wx) rfl rfl (by simp [execOp, Act.eval, s97, s106, go_sem]) ⟨_, rfl, tab_put rfl hs rfl rfl, hS.same 11 rfl⟩
   intro a12 w12 fl d12 z12 rest12 R12 hfl hS
   obtain ⟨B12, n12, hBs, hAs, hPs⟩ := hS.finish hfl rfl
   replace d12 := d12.trans d11
   replace z12 := z12.trans z11
   obtain ⟨⟨-, b_g1_12⟩, ⟨-, b_g2_12⟩, ⟨-, b_g3_12⟩, -⟩ := hBs
   have s4_12 := (rest12 4 (not_of (by kernel_rfl))).trans s4_11
   have s6_12 := (rest12 6 (not_of (by kernel_rfl))).trans s6_11
   have s7_12 := (rest12 7 (not_of (by kernel_rfl))).trans s7_11
   have s107_12 : a12.tmps.getD 107 undef = .bool true := R12 11 _ rfl
   clear R12 rest12 hS hfl hPs hAs
   clear s4_11 s6_11 s7_11 s8_11 s94_11 b_g1_11 b_g2_11 b_g3_11 d11 z11
   refine wp_cond_true (show a12.tmps.getD 107 undef = .bool true from s107_12) ?_
   refine wp_seq ?_
   refine wp_regx (SX W w12.heap.size [⟨g1, 60, (cR a b c d), none, #[]⟩, ⟨g2, 60, (cR p q r t), none, #[]⟩, ⟨g3, 95, (cU 0 0), some 9, (cU ((a * 2 ^ Int.toNat ((Rg.oneV ⟨⟨p, q⟩, ⟨r, t⟩⟩) % 64)) % 18446744073709551616) ((b * 2 ^ Int.toNat ((Rg.oneV ⟨⟨p, q⟩, ⟨r, t⟩⟩) % 64)) % 18446744073709551616))⟩] []) (TabX [fun vx => vx = .pointer (some ⟨g1, 0, none⟩), fun vx => vx = .int .u64 a, fun vx => vx = .int .u64 ((Rg.oneV ⟨⟨p, q⟩, ⟨r, t⟩⟩) % 64), fun vx => vx = .int .u64 ((a * 2 ^ Int.toNat ((Rg.oneV ⟨⟨p, q⟩, ⟨r, t⟩⟩) % 64)) % 18446744073709551616), fun vx => vx = .pointer (some ⟨g1, 1, none⟩), fun vx => vx = .int .u64 b, fun vx => vx = .int .u64 ((Rg.oneV ⟨⟨p, q⟩, ⟨r, t⟩⟩) % 64), fun vx => vx = .int .u64 ((b * 2 ^ Int.toNat ((Rg.oneV ⟨⟨p, q⟩, ⟨r, t⟩⟩) % 64)) % 18446744073709551616), fun vx => vx = .agg #[.int .u64 ((a * 2 ^ Int.toNat ((Rg.oneV ⟨⟨p, q⟩, ⟨r, t⟩⟩) % 64)) % 18446744073709551616), .int .u64 ((b * 2 ^ Int.toNat ((Rg.oneV ⟨⟨p, q⟩, ⟨r, t⟩⟩) % 64)) % 18446744073709551616)], fun _ => True]) (by kernel_rfl) (back_of (by kernel_rfl)) (dst_of (by kernel_rfl)) (in_ofz (by kernel_rfl) z12) (fun fl w1 hfl hw => SX.start' hw B12 hfl rfl ⟨b_g1_12, b_g2_12, b_g3_12, trivial⟩) ?h67 ?_
   case h67 =>
     intro ix ox ax wx fl ho hS hfi clo hsz hrest hdone hund
     have t4 := (hrest 4 (not_of (by kernel_rfl))).trans s4_12
     have t6 := (hrest 6 (not_of (by kernel_rfl))).trans s6_12
     have t7 := (hrest 7 (not_of (by kernel_rfl))).trans s7_12
     have hs : ax.tmps.size = 119 := hsz.trans z12
     have hi : ix < 10 := (Array.getElem?_eq_some_iff.1 ho).1
     clear hrest hsz hund
     obtain rfl | rfl | rfl | rfl | rfl | rfl | rfl | rfl | rfl | rfl : ix = 0 ∨ ix = 1 ∨ ix = 2 ∨ ix = 3 ∨ ix = 4 ∨ ix = 5 ∨ ix = 6 ∨ ix = 7 ∨ ix = 8 ∨ ix = 9 := by omega
     all_goals obtain rfl := Option.some.inj (show some _ = some ox from ho)
     ·
      exact wpOp_val (v := .pointer (some ⟨g1, 0, none⟩)) (w' := wx) rfl rfl (by simp [execOp, Act.eval, t4, go_sem]) ⟨_, rfl, tab_put rfl hs rfl rfl, hS.same 0 rfl⟩
     ·
      have s108 : ax.tmps.getD 108 undef = .pointer (some ⟨g1, 0, none⟩) := (hdone 0 _ rfl rfl).2 _ rfl
      have hr := hS.rowNi 0 rfl
      have hc := exec_load1 (i := 0) hr (v := .int .u64 a) rfl
      exact wpOp_val (v := .int .u64 a) (w' := wx) rfl rfl (by simp [execOp, Act.eval, s108, hc, go_sem]) ⟨_, rfl, tab_put rfl hs rfl rfl, hS.same 1 rfl⟩
     ·
      exact wpOp_val (v := .int .u64 ((Rg.oneV ⟨⟨p, q⟩, ⟨r, t⟩⟩) % 64)) (w' := wx) rfl rfl (by simp [execOp, Act.eval, t7]) ⟨_, rfl, tab_put rfl hs rfl rfl, hS.same 2 rfl⟩
     ·
      have s109 : ax.tmps.getD 109 undef = .int .u64 a := (hdone 0 _ rfl rfl).2 _ rfl
      have s110 : ax.tmps.getD 110 undef = .int .u64 ((Rg.oneV ⟨⟨p, q⟩, ⟨r, t⟩⟩) % 64) := (hdone 1 _ rfl rfl).2 _ rfl
      exact wpOp_val (v := .int .u64 ((a * 2 ^ Int.toNat ((Rg.oneV ⟨⟨p, q⟩, ⟨r, t⟩⟩) % 64)) % 18446744073709551616)) (w' := wx) rfl rfl (exec_shl rfl (show ax.eval (.tmp 109) = .int .u64 a from s109) (show ax.eval (.tmp 110) = .int .u64 ((Rg.oneV ⟨⟨p, q⟩, ⟨r, t⟩⟩) % 64) from s110) HN.out.1 HN.out.2) ⟨_, rfl, tab_put rfl hs rfl rfl, hS.same 3 rfl⟩
     ·
      exact wpOp_val (v := .pointer (some ⟨g1, 1, none⟩)) (w' := wx) rfl rfl (by simp [execOp, Act.eval, t4, go_sem]) ⟨_, rfl, tab_put rfl hs rfl rfl, hS.same 4 rfl⟩
     ·
      have s112 : ax.tmps.getD 112 undef = .pointer (some ⟨g1, 1, none⟩) := (hdone 0 _ rfl rfl).2 _ rfl
      have hr := hS.rowNi 0 rfl
      have hc := exec_load1 (i := 1) hr (v := .int .u64 b) rfl
      exact wpOp_val (v := .int .u64 b) (w' := wx) rfl rfl (by simp [execOp, Act.eval, s112, hc, go_sem]) ⟨_, rfl, tab_put rfl hs rfl rfl, hS.same 5 rfl⟩
     ·
      exact wpOp_val (v := .int .u64 ((Rg.oneV ⟨⟨p, q⟩, ⟨r, t⟩⟩) % 64)) (w' := wx) rfl rfl (by simp [execOp, Act.eval, t7]) ⟨_, rfl, tab_put rfl hs rfl rfl, hS.same 6 rfl⟩
     ·
      have s113 : ax.tmps.getD 113 undef = .int .u64 b := (hdone 0 _ rfl rfl).2 _ rfl
      have s114 : ax.tmps.getD 114 undef = .int .u64 ((Rg.oneV ⟨⟨p, q⟩, ⟨r, t⟩⟩) % 64) := (hdone 1 _ rfl rfl).2 _ rfl
      exact wpOp_val (v := .int .u64 ((b * 2 ^ Int.toNat ((Rg.oneV ⟨⟨p, q⟩, ⟨r, t⟩⟩) % 64)) % 18446744073709551616)) (w' := wx) rfl rfl (exec_shl rfl (show ax.eval (.tmp 113) = .int .u64 b from s113) (show ax.eval (.tmp 114) = .int .u64 ((Rg.oneV ⟨⟨p, q⟩, ⟨r, t⟩⟩) % 64) from s114) HN.out.1 HN.out.2) ⟨_, rfl, tab_put rfl hs rfl rfl, hS.same 7 rfl⟩
     ·
      have s111 : ax.tmps.getD 111 undef = .int .u64 ((a * 2 ^ Int.toNat ((Rg.oneV ⟨⟨p, q⟩, ⟨r, t⟩⟩) % 64)) % 18446744073709551616) := (hdone 0 _ rfl rfl).2 _ rfl
      have s115 : ax.tmps.getD 115 undef = .int .u64 ((b * 2 ^ Int.toNat ((Rg.oneV ⟨⟨p, q⟩, ⟨r, t⟩⟩) % 64)) % 18446744073709551616) := (hdone 1 _ rfl rfl).2 _ rfl
      exact wpOp_val (v := .agg #[.int .u64 ((a * 2 ^ Int.toNat ((Rg.oneV ⟨⟨p, q⟩, ⟨r, t⟩⟩) % 64)) % 18446744073709551616), .int .u64 ((b * 2 ^ Int.toNat ((Rg.oneV ⟨⟨p, q⟩, ⟨r, t⟩⟩) % 64)) % 18446744073709551616)]) (w' := wx) rfl rfl (exec_build rfl (parts2 (show ax.eval (.tmp 111) = .int .u64 ((a * 2 ^ Int.toNat ((Rg.oneV ⟨⟨p, q⟩, ⟨r, t⟩⟩) % 64)) % 18446744073709551616) from s111) (show ax.eval (.tmp 115) = .int .u64 ((b * 2 ^ Int.toNat ((Rg.oneV ⟨⟨p, q⟩, ⟨r, t⟩⟩) % 64)) % 18446744073709551616) from s115)) (by kernel_rfl)) ⟨_, rfl, tab_put rfl hs rfl rfl, hS.same 8 rfl⟩
     ·
      have s116 : ax.tmps.getD 116 undef = .agg #[.int .u64 ((a * 2 ^ Int.toNat ((Rg.oneV ⟨⟨p, q⟩, ⟨r, t⟩⟩) % 64)) % 18446744073709551616), .int .u64 ((b * 2 ^ Int.toNat ((Rg.oneV ⟨⟨p, q⟩, ⟨r, t⟩⟩) % 64)) % 18446744073709551616)] := (hdone 0 _ rfl rfl).2 _ rfl
      have hr := hS.rowFi 2 rfl hfi
      exact wpOp_skp (w' := wx.setRow g3 #[.int .u64 ((a * 2 ^ Int.toNat ((Rg.oneV ⟨⟨p, q⟩, ⟨r, t⟩⟩) % 64)) % 18446744073709551616), .int .u64 ((b * 2 ^ Int.toNat ((Rg.oneV ⟨⟨p, q⟩, ⟨r, t⟩⟩) % 64)) % 18446744073709551616)]) rfl rfl (exec_storeR 95 _ _ rfl g3 #[.int .u64 ((a * 2 ^ Int.toNat ((Rg.oneV ⟨⟨p, q⟩, ⟨r, t⟩⟩) % 64)) % 18446744073709551616), .int .u64 ((b * 2 ^ Int.toNat ((Rg.oneV ⟨⟨p, q⟩, ⟨r, t⟩⟩) % 64)) % 18446744073709551616)] (show ax.eval (.tmp 6) = .pointer (some ⟨g3, 0, none⟩) from t6) (show ax.eval (.tmp 116) = .agg #[.int .u64 ((a * 2 ^ Int.toNat ((Rg.oneV ⟨⟨p, q⟩, ⟨r, t⟩⟩) % 64)) % 18446744073709551616), .int .u64 ((b * 2 ^ Int.toNat ((Rg.oneV ⟨⟨p, q⟩, ⟨r, t⟩⟩) % 64)) % 18446744073709551616)] from s116) hr (by kernel_rfl) rfl (by simp [Value.oneCell'])) ⟨undef, rfl, trivial, hS.storeBi 9 2 rfl q_g3 rfl ⟨(show g1 ≠ g3 by omega), (show g2 ≠ g3 by omega), trivial⟩ (stored_setRow wx g3 _ _ _ hr)⟩
   intro a13 w13 fl d13 z13 rest13 R13 hfl hS
   obtain ⟨B13, n13, hBs, hAs, hPs⟩ := hS.finish hfl rfl
   replace d13 := d13.trans d12
   replace z13 := z13.trans z12
   obtain ⟨⟨-, b_g1_13⟩, ⟨-, b_g2_13⟩, ⟨-, b_g3_13⟩, -⟩ := hBs
   have s6_13 := (rest13 6 (not_of (by kernel_rfl))).trans s6_12
   clear R13 rest13 hS hfl hPs hAs
   clear s4_12 s6_12 s7_12 s107_12 b_g1_12 b_g2_12 b_g3_12 d12 z12
   refine wp_ret ?_
   try simp only [Exit.inBlock, Exit.then]
   refine bodyPost_ret (res_c (fn := Try.f92) rfl s6_13 (load_row 95 b_g3_13 Try.underlying95 rfl (by kernel_rfl))) d13 ?_
   have no5 := nb Ffk11.out
   have no4 := nb Ffk12.out
   have no10 := nb Ffk13.out
   have no3 := nb Ffk14.out
   have no9 := nb Ffk16.out
   have no7 := nb Ffk18.out
   have ho : op = 6 := yb Ffk19.out
   have HE : restU op ⟨⟨a, b⟩, ⟨c, d⟩⟩ ⟨⟨p, q⟩, ⟨r, t⟩⟩ = ⟨(a * 2 ^ Int.toNat ((Rg.oneV ⟨⟨p, q⟩, ⟨r, t⟩⟩) % 64)) % 18446744073709551616, (b * 2 ^ Int.toNat ((Rg.oneV ⟨⟨p, q⟩, ⟨r, t⟩⟩) % 64)) % 18446744073709551616⟩ := by
     unfold restU
     rw [if_neg no5, if_neg no4, if_neg no10, if_neg no3, if_neg no9, if_neg no7]
     rw [if_pos ho]
     rw [if_pos (by rw [Ffk1.out, ← HF.out, Ffk20.out]; rfl)]
     exact HG.out Ffk20.out
   have HE2 : (.agg #[.int .u64 ((a * 2 ^ Int.toNat ((Rg.oneV ⟨⟨p, q⟩, ⟨r, t⟩⟩) % 64)) % 18446744073709551616), .int .u64 ((b * 2 ^ Int.toNat ((Rg.oneV ⟨⟨p, q⟩, ⟨r, t⟩⟩) % 64)) % 18446744073709551616)] : Value) = .agg #[.int .u64 (restU op ⟨⟨a, b⟩, ⟨c, d⟩⟩ ⟨⟨p, q⟩, ⟨r, t⟩⟩).lo, .int .u64 (restU op ⟨⟨a, b⟩, ⟨c, d⟩⟩ ⟨⟨p, q⟩, ⟨r, t⟩⟩).hi] := by rw [HE]
   exact ⟨retV HE2, B13⟩
  have Ffk19 := Lib.hid fk19; clear fk19
  refine wp_regx (SX W w10.heap.size [⟨g1, 60, (cR a b c d), none, #[]⟩, ⟨g2, 60, (cR p q r t), none, #[]⟩, ⟨g3, 95, (cU 0 0), none, #[]⟩] []) (TabX [fun vx => vx = .bool false, fun vx => vx = .bool false]) (by kernel_rfl) (back_of (by kernel_rfl)) (dst_of (by kernel_rfl)) (in_ofz (by kernel_rfl) z10) (fun fl w1 hfl hw => SX.start' hw B10 hfl rfl ⟨b_g1_10, b_g2_10, b_g3_10, trivial⟩) ?h68 ?_
  case h68 =>
    intro ix ox ax wx fl ho hS hfi clo hsz hrest hdone hund
    have t16 := (hrest 16 (not_of (by kernel_rfl))).trans s16_10
    have hs : ax.tmps.size = 119 := hsz.trans z10
    have hi : ix < 2 := (Array.getElem?_eq_some_iff.1 ho).1
    clear hrest hsz hund
    obtain rfl | rfl : ix = 0 ∨ ix = 1 := by omega
    all_goals obtain rfl := Option.some.inj (show some _ = some ox from ho)
    ·
     exact wpOp_val (v := .bool (op == 6)) (w' := wx) rfl rfl (by (simp [execOp, Act.eval, t16, go_sem]; try (simp only [IntKind.wrap_i64, wrap64]))) ⟨_, rfl, tab_put rfl hs rfl (congrArg Value.bool Ffk19.out), hS.same 0 rfl⟩
    ·
     have s95 : ax.tmps.getD 95 undef = .bool false := (hdone 0 _ rfl rfl).2 _ rfl
     exact wpOp_val (v := .bool false) (w' := wx) rfl rfl (by simp [execOp, Act.eval, s95]) ⟨_, rfl, tab_put rfl hs rfl rfl, hS.same 1 rfl⟩
  intro a11 w11 fl d11 z11 rest11 R11 hfl hS
  obtain ⟨B11, n11, hBs, hAs, hPs⟩ := hS.finish hfl rfl
  replace d11 := d11.trans d10
  replace z11 := z11.trans z10
  obtain ⟨⟨-, b_g1_11⟩, ⟨-, b_g2_11⟩, ⟨-, b_g3_11⟩, -⟩ := hBs
  have s4_11 := (rest11 4 (not_of (by kernel_rfl))).trans s4_10
  have s6_11 := (rest11 6 (not_of (by kernel_rfl))).trans s6_10
  have s7_11 := (rest11 7 (not_of (by kernel_rfl))).trans s7_10
  have s8_11 := (rest11 8 (not_of (by kernel_rfl))).trans s8_10
  have s94_11 : a11.tmps.getD 94 undef = .bool false := R11 1 _ rfl
  clear R11 rest11 hS hfl hPs hAs
  clear s4_10 s6_10 s7_10 s8_10 s16_10 s82_10 b_g1_10 b_g2_10 b_g3_10 d10 z10
  refine wp_cond_false (show a11.tmps.getD 94 undef = .bool false from s94_11) ?_
  refine wp_skip ?_
  refine wp_seq ?_
  refine wp_regx (SX W w11.heap.size [⟨g1, 60, (cR a b c d), none, #[]⟩, ⟨g2, 60, (cR p q r t), none, #[]⟩, ⟨g3, 95, (cU 0 0), some 2, (cU allR.u.lo allR.u.hi)⟩] []) (TabX [fun vx => vx = .agg #[.int .u64 allR.u.lo, .int .u64 allR.u.hi, .int .i64 allR.s.lo, .int .i64 allR.s.hi], fun vx => vx = .agg #[.int .u64 allR.u.lo, .int .u64 allR.u.hi], fun _ => True]) (by kernel_rfl) (back_of (by kernel_rfl)) (dst_of (by kernel_rfl)) (in_ofz (by kernel_rfl) z11) (fun fl w1 hfl hw => SX.start' hw B11 hfl rfl ⟨b_g1_11, b_g2_11, b_g3_11, trivial⟩) ?h69 ?_
  case h69 =>
    intro ix ox ax wx fl ho hS hfi clo hsz hrest hdone hund
    have t6 := (hrest 6 (not_of (by kernel_rfl))).trans s6_11
    have hs : ax.tmps.size = 119 := hsz.trans z11
    have hi : ix < 3 := (Array.getElem?_eq_some_iff.1 ho).1
    clear hrest hsz hund
    obtain rfl | rfl | rfl : ix = 0 ∨ ix = 1 ∨ ix = 2 := by omega
    all_goals obtain rfl := Option.some.inj (show some _ = some ox from ho)
    ·
     refine wpOp_call (args := #[]) rfl rfl (exec_call rfl rfl rfl (args0 ) Try.func32 (by decide +kernel) rfl) ?_
     · refine (all_n wx).mono ?_
       rintro e w' ⟨rfl, b9⟩
       exact ⟨_, rfl, _, rfl, tab_put rfl hs rfl rfl, hS.quiet 0 rfl b9⟩
    ·
     have s117 : ax.tmps.getD 117 undef = .agg #[.int .u64 allR.u.lo, .int .u64 allR.u.hi, .int .i64 allR.s.lo, .int .i64 allR.s.hi] := (hdone 0 _ rfl rfl).2 _ rfl
     refine wpOp_call (args := #[.agg #[.int .u64 allR.u.lo, .int .u64 allR.u.hi, .int .i64 allR.s.lo, .int .i64 allR.s.hi]]) rfl rfl (exec_call rfl rfl rfl (args1 (show ax.eval (.tmp 117) = .agg #[.int .u64 allR.u.lo, .int .u64 allR.u.hi, .int .i64 allR.s.lo, .int .i64 allR.s.hi] from s117)) Try.func61 (by decide +kernel) rfl) ?_
     · refine (unsigned_n allR.u.lo allR.u.hi allR.s.lo allR.s.hi wx).mono ?_
       rintro e w' ⟨rfl, b9⟩
       exact ⟨_, rfl, _, rfl, tab_put rfl hs rfl rfl, hS.quiet 1 rfl b9⟩
    ·
     have s118 : ax.tmps.getD 118 undef = .agg #[.int .u64 allR.u.lo, .int .u64 allR.u.hi] := (hdone 0 _ rfl rfl).2 _ rfl
     have hr := hS.rowFi 2 rfl hfi
     exact wpOp_skp (w' := wx.setRow g3 #[.int .u64 allR.u.lo, .int .u64 allR.u.hi]) rfl rfl (exec_storeR 95 _ _ rfl g3 #[.int .u64 allR.u.lo, .int .u64 allR.u.hi] (show ax.eval (.tmp 6) = .pointer (some ⟨g3, 0, none⟩) from t6) (show ax.eval (.tmp 118) = .agg #[.int .u64 allR.u.lo, .int .u64 allR.u.hi] from s118) hr (by kernel_rfl) rfl (by simp [Value.oneCell'])) ⟨undef, rfl, trivial, hS.storeBi 2 2 rfl q_g3 rfl ⟨(show g1 ≠ g3 by omega), (show g2 ≠ g3 by omega), trivial⟩ (stored_setRow wx g3 _ _ _ hr)⟩
  intro a12 w12 fl d12 z12 rest12 R12 hfl hS
  obtain ⟨B12, n12, hBs, hAs, hPs⟩ := hS.finish hfl rfl
  replace d12 := d12.trans d11
  replace z12 := z12.trans z11
  obtain ⟨⟨-, b_g1_12⟩, ⟨-, b_g2_12⟩, ⟨-, b_g3_12⟩, -⟩ := hBs
  have s6_12 := (rest12 6 (not_of (by kernel_rfl))).trans s6_11
  clear R12 rest12 hS hfl hPs hAs
  clear s4_11 s6_11 s7_11 s8_11 s94_11 b_g1_11 b_g2_11 b_g3_11 d11 z11
  refine wp_ret ?_
  try simp only [Exit.inBlock, Exit.then]
  refine bodyPost_ret (res_c (fn := Try.f92) rfl s6_12 (load_row 95 b_g3_12 Try.underlying95 rfl (by kernel_rfl))) d12 ?_
  have no5 := nb Ffk11.out
  have no4 := nb Ffk12.out
  have no10 := nb Ffk13.out
  have no3 := nb Ffk14.out
  have no9 := nb Ffk16.out
  have no7 := nb Ffk18.out
  have no6 := nb Ffk19.out
  have HE : restU op ⟨⟨a, b⟩, ⟨c, d⟩⟩ ⟨⟨p, q⟩, ⟨r, t⟩⟩ = ⟨allR.u.lo, allR.u.hi⟩ := by
    unfold restU
    rw [if_neg no5, if_neg no4, if_neg no10, if_neg no3, if_neg no9, if_neg no7, if_neg no6]
    try rfl
  have HE2 : (.agg #[.int .u64 allR.u.lo, .int .u64 allR.u.hi] : Value) = .agg #[.int .u64 (restU op ⟨⟨a, b⟩, ⟨c, d⟩⟩ ⟨⟨p, q⟩, ⟨r, t⟩⟩).lo, .int .u64 (restU op ⟨⟨a, b⟩, ⟨c, d⟩⟩ ⟨⟨p, q⟩, ⟨r, t⟩⟩).hi] := by rw [HE]
  exact ⟨retV HE2, B12⟩
end Go.Proofs.Ytfededcmelhjjaa.Bnd
