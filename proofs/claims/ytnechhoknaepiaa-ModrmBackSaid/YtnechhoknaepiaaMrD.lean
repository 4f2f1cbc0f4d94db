/-
  Layer 12: the document's own Num. (Written by gen_mrd.py.)
-/
import Derived.Test.YtnechhoknaepiaaMrC
namespace Go.Proofs.Ytnechhoknaepiaa.Mrm
open Go.RowKit
set_option linter.unusedVariables false
set_option linter.unnecessarySimpa false
set_option linter.unusedSimpArgs false
set_option maxRecDepth 100000

theorem num_n (v n : Int) (h0 : -9223372036854775808 ≤ v) (h1 : v ≤ 9223372036854775807) (W : World) : Calls Try.prog 15 #[.int .i64 v, .int .i64 n] W (RetB (bif numB v n then numL v n.toNat else []) (bif numB v n then 0 else 2) W) := by
  unfold numB
  cases h : wid n
  · exact num_wid v n h W
  · have h3 : n = 1 ∨ n = 2 ∨ n = 4 := by
      unfold wid at h
      simp only [Bool.or_eq_true, beq_iff_eq] at h
      omega
    rcases h3 with rfl | rfl | rfl
    · show Calls _ _ _ _ (RetB (bif fitB v 1 then numL v 1 else []) (bif fitB v 1 then 0 else 2) W)
      cases g : fitB v 1
      · exact num_no1 v h0 h1 g W
      · exact num_yes1 v h0 h1 g W
    · show Calls _ _ _ _ (RetB (bif fitB v 2 then numL v 2 else []) (bif fitB v 2 then 0 else 2) W)
      cases g : fitB v 2
      · exact num_no2 v h0 h1 g W
      · exact num_yes2 v h0 h1 g W
    · show Calls _ _ _ _ (RetB (bif fitB v 4 then numL v 4 else []) (bif fitB v 4 then 0 else 2) W)
      cases g : fitB v 4
      · exact num_no4 v h0 h1 g W
      · exact num_yes4 v h0 h1 g W
theorem qnum_wid (v n : Int) (h : wid n = false) (W : World) : Calls Try.prog 16 #[.int .i64 v, .int .i64 n] W (RetB [] 2 W) := by
  obtain ⟨h1, h2, h3⟩ := wid_no h
  have e1 : (n != 1) = true := by simpa using h1
  have e2 : (n != 2) = true := by simpa using h2
  have e3 : (n != 4) = true := by simpa using h3
  clear h h1 h2 h3
  unfold RetB
  go_enter Try.func16, Try.ntmps16
  go_wp2_with fail
  go_ret2
  exact ⟨_, rfl, Bts.nil _ _, Below.refl _ _⟩
theorem and255 {u : Int} (h0 : 0 ≤ u) (h1 : u < 18446744073709551616) : bits .and .u64 u 255 = u % 256 := by
  rw [u64_and u 255 h0 h1 (by omega) (by omega)]
  obtain ⟨U, rfl⟩ := Int.eq_ofNat_of_zero_le h0
  rw [Int.toNat_natCast, show (255 : Int).toNat = 2 ^ 8 - 1 from rfl, Nat.and_two_pow_sub_one_eq_mod]
  simp
/-- What is left of a number of 64 bits behind k bytes. -/
def lefI (v : Int) (k : Nat) : Int := v % 18446744073709551616 / 2 ^ (8 * k)
theorem lef_bd (v : Int) (k : Nat) : 0 ≤ lefI v k ∧ lefI v k < 18446744073709551616 := by
  unfold lefI
  have p : (0 : Int) < 2 ^ (8 * k) := Int.pow_pos (by omega)
  refine ⟨Int.ediv_nonneg (by omega) (by omega), ?_⟩
  exact Int.lt_of_le_of_lt (Int.ediv_le_self _ (by omega)) (by omega)
theorem lef_next (v : Int) (k : Nat) : lefI v k / 256 = lefI v (k + 1) := by
  unfold lefI
  rw [Int.ediv_ediv_of_nonneg (Int.le_of_lt (Int.pow_pos (by omega))), show 8 * (k + 1) = 8 * k + 8 by omega, Int.pow_add]
  rfl
theorem lef_by (v : Int) (k : Nat) (h : k < 4) : lefI v k % 256 = byS v k := by
  unfold lefI byS
  obtain rfl | rfl | rfl | rfl : k = 0 ∨ k = 1 ∨ k = 2 ∨ k = 3 := by omega
  · show v % 18446744073709551616 / 1 % 256 = v / 1 % 256; omega
  · show v % 18446744073709551616 / 256 % 256 = v / 256 % 256; omega
  · show v % 18446744073709551616 / 65536 % 256 = v / 65536 % 256; omega
  · show v % 18446744073709551616 / 16777216 % 256 = v / 16777216 % 256; omega
theorem numL_next (v : Int) (k : Nat) : numL v (k + 1) = numL v k ++ [byS v k] := by
  unfold numL
  rw [List.range_succ, List.map_append]; rfl
set_option maxHeartbeats 1000000 in
theorem qnum_no1 (v : Int) (h0 : -9223372036854775808 ≤ v) (h1 : v ≤ 9223372036854775807) (h : fitB v 1 = false) (W : World) : Calls Try.prog 16 #[.int .i64 v, .int .i64 1] W (RetB [] 2 W) := by
  unfold RetB
  by_cases h2 : v < -128
  · clear h
    go_enter Try.func16, Try.ntmps16
    go_wp2_with fail
    go_ret2
    exact ⟨_, rfl, Bts.nil _ _, Below.refl _ _⟩
  · have h3 : 128 ≤ v := by
      have g : ¬ (-128 ≤ v ∧ v < 128) := by
        unfold fitB at h
        rw [← Bool.decide_and, decide_eq_false_iff_not] at h
        exact h
      omega
    have h4 : -128 ≤ v := by omega
    clear h h2
    go_enter Try.func16, Try.ntmps16
    go_wp2_with fail
    go_ret2
    exact ⟨_, rfl, Bts.nil _ _, Below.refl _ _⟩
set_option maxHeartbeats 2000000 in
theorem qnum_yes1 (v : Int) (h0 : -9223372036854775808 ≤ v) (h1 : v ≤ 9223372036854775807) (h : fitB v 1 = true) (W : World) : Calls Try.prog 16 #[.int .i64 v, .int .i64 1] W (RetB (numL v 1) 0 W) := by
  have g : -128 ≤ v ∧ v < 128 := by
    unfold fitB at h
    rw [← Bool.decide_and, decide_eq_true_iff] at h
    exact h
  obtain ⟨g1, g2⟩ := g
  clear h h0 h1
  have HU := Lib.hid (show IntKind.u64.wrap v = lefI v 0 by rw [IntKind.wrap_u64]; unfold lefI; show _ = _ / 1; omega)
  unfold RetB
  go_enter Try.func16, Try.ntmps16
  go_wp2
  go_loopw [6, 7, 8] (fun u x i wr => ∃ k : Nat, k ≤ 1 ∧ i = .int .i64 k ∧ u = .int .u64 (lefI v k) ∧ Hid (Below W.heap.size W wr ∧ Bts W.heap.size wr x (numL v k))) (fun u x i _ => 1 - (intOf i).toNat)
  case atStart => exact ⟨0, by omega, rfl, congrArg (Value.int .u64) HU.out, Lib.hid ⟨Below.refl _ _, Bts.nil _ _⟩⟩
  case round =>
    obtain ⟨k, hk, rfl, rfl, hR⟩ := hrel
    by_cases hlt : k < 1
    · have HB := Lib.hid (lef_bd v k)
      have HN := Lib.hid (lef_next v k)
      have HY := Lib.hid (lef_by v k (by omega))
      have HA := Lib.hid (and255 (lef_bd v k).1 (lef_bd v k).2)
      have HB2 := hR.out.1
      have HO := hR.out.2
      have HL := Lib.hid (numL_length v k)
      clear hR
      have B0 := Lib.hid HB2; have O0 := Lib.hid HO
      clear HB2 HO
      generalize lefI v k = uu at *
      have EA := HA.out
      clear HA
      go_wp2_with (at_builtin; refine wpList_append_b rfl _ _ rfl W.heap.size _ (numL v k) rfl (O0.out.below (below_new (Below.refl _ _) _)) _ 1 1 _ rfl (one_at _ _ (by omega)) (by rw [HL.out]; omega) (Nat.le_trans B0.out.size (by simp)) ?_)
      intro v8 w8 o8 g8
      have O8 := Lib.hid (show Bts W.heap.size w8 v8 (numL v (k + 1)) by rw [numL_next, ← HY.out]; exact o8)
      have B8 := Lib.hid (below_grown (below_new B0.out _) g8 (fun j hj => O0.out.lt j hj))
      clear o8 g8 EA HY O0
      go_wp2_with fail
      go_roundw
      case rel => exact ⟨k + 1, by omega, by go_num, congrArg (Value.int .u64) HN.out, Lib.hid ⟨B8.out, O8.out⟩⟩
      case measure => simp [intOf]; omega
    · obtain rfl : k = 1 := by omega
      go_wp2
      go_ret2
      exact ⟨_, rfl, hR.out.2, hR.out.1⟩
set_option maxHeartbeats 1000000 in
theorem qnum_no2 (v : Int) (h0 : -9223372036854775808 ≤ v) (h1 : v ≤ 9223372036854775807) (h : fitB v 2 = false) (W : World) : Calls Try.prog 16 #[.int .i64 v, .int .i64 2] W (RetB [] 2 W) := by
  unfold RetB
  by_cases h2 : v < -32768
  · clear h
    go_enter Try.func16, Try.ntmps16
    go_wp2_with fail
    go_ret2
    exact ⟨_, rfl, Bts.nil _ _, Below.refl _ _⟩
  · have h3 : 32768 ≤ v := by
      have g : ¬ (-32768 ≤ v ∧ v < 32768) := by
        unfold fitB at h
        rw [← Bool.decide_and, decide_eq_false_iff_not] at h
        exact h
      omega
    have h4 : -32768 ≤ v := by omega
    clear h h2
    go_enter Try.func16, Try.ntmps16
    go_wp2_with fail
    go_ret2
    exact ⟨_, rfl, Bts.nil _ _, Below.refl _ _⟩
set_option maxHeartbeats 2000000 in
theorem qnum_yes2 (v : Int) (h0 : -9223372036854775808 ≤ v) (h1 : v ≤ 9223372036854775807) (h : fitB v 2 = true) (W : World) : Calls Try.prog 16 #[.int .i64 v, .int .i64 2] W (RetB (numL v 2) 0 W) := by
  have g : -32768 ≤ v ∧ v < 32768 := by
    unfold fitB at h
    rw [← Bool.decide_and, decide_eq_true_iff] at h
    exact h
  obtain ⟨g1, g2⟩ := g
  clear h h0 h1
  have HU := Lib.hid (show IntKind.u64.wrap v = lefI v 0 by rw [IntKind.wrap_u64]; unfold lefI; show _ = _ / 1; omega)
  unfold RetB
  go_enter Try.func16, Try.ntmps16
  go_wp2
  go_loopw [6, 7, 8] (fun u x i wr => ∃ k : Nat, k ≤ 2 ∧ i = .int .i64 k ∧ u = .int .u64 (lefI v k) ∧ Hid (Below W.heap.size W wr ∧ Bts W.heap.size wr x (numL v k))) (fun u x i _ => 2 - (intOf i).toNat)
  case atStart => exact ⟨0, by omega, rfl, congrArg (Value.int .u64) HU.out, Lib.hid ⟨Below.refl _ _, Bts.nil _ _⟩⟩
  case round =>
    obtain ⟨k, hk, rfl, rfl, hR⟩ := hrel
    by_cases hlt : k < 2
    · have HB := Lib.hid (lef_bd v k)
      have HN := Lib.hid (lef_next v k)
      have HY := Lib.hid (lef_by v k (by omega))
      have HA := Lib.hid (and255 (lef_bd v k).1 (lef_bd v k).2)
      have HB2 := hR.out.1
      have HO := hR.out.2
      have HL := Lib.hid (numL_length v k)
      clear hR
      have B0 := Lib.hid HB2; have O0 := Lib.hid HO
      clear HB2 HO
      generalize lefI v k = uu at *
      have EA := HA.out
      clear HA
      go_wp2_with (at_builtin; refine wpList_append_b rfl _ _ rfl W.heap.size _ (numL v k) rfl (O0.out.below (below_new (Below.refl _ _) _)) _ 1 1 _ rfl (one_at _ _ (by omega)) (by rw [HL.out]; omega) (Nat.le_trans B0.out.size (by simp)) ?_)
      intro v8 w8 o8 g8
      have O8 := Lib.hid (show Bts W.heap.size w8 v8 (numL v (k + 1)) by rw [numL_next, ← HY.out]; exact o8)
      have B8 := Lib.hid (below_grown (below_new B0.out _) g8 (fun j hj => O0.out.lt j hj))
      clear o8 g8 EA HY O0
      go_wp2_with fail
      go_roundw
      case rel => exact ⟨k + 1, by omega, by go_num, congrArg (Value.int .u64) HN.out, Lib.hid ⟨B8.out, O8.out⟩⟩
      case measure => simp [intOf]; omega
    · obtain rfl : k = 2 := by omega
      go_wp2
      go_ret2
      exact ⟨_, rfl, hR.out.2, hR.out.1⟩
set_option maxHeartbeats 1000000 in
theorem qnum_no4 (v : Int) (h0 : -9223372036854775808 ≤ v) (h1 : v ≤ 9223372036854775807) (h : fitB v 4 = false) (W : World) : Calls Try.prog 16 #[.int .i64 v, .int .i64 4] W (RetB [] 2 W) := by
  unfold RetB
  by_cases h2 : v < -2147483648
  · clear h
    go_enter Try.func16, Try.ntmps16
    go_wp2_with fail
    go_ret2
    exact ⟨_, rfl, Bts.nil _ _, Below.refl _ _⟩
  · have h3 : 2147483648 ≤ v := by
      have g : ¬ (-2147483648 ≤ v ∧ v < 2147483648) := by
        unfold fitB at h
        rw [← Bool.decide_and, decide_eq_false_iff_not] at h
        exact h
      omega
    have h4 : -2147483648 ≤ v := by omega
    clear h h2
    go_enter Try.func16, Try.ntmps16
    go_wp2_with fail
    go_ret2
    exact ⟨_, rfl, Bts.nil _ _, Below.refl _ _⟩
set_option maxHeartbeats 2000000 in
theorem qnum_yes4 (v : Int) (h0 : -9223372036854775808 ≤ v) (h1 : v ≤ 9223372036854775807) (h : fitB v 4 = true) (W : World) : Calls Try.prog 16 #[.int .i64 v, .int .i64 4] W (RetB (numL v 4) 0 W) := by
  have g : -2147483648 ≤ v ∧ v < 2147483648 := by
    unfold fitB at h
    rw [← Bool.decide_and, decide_eq_true_iff] at h
    exact h
  obtain ⟨g1, g2⟩ := g
  clear h h0 h1
  have HU := Lib.hid (show IntKind.u64.wrap v = lefI v 0 by rw [IntKind.wrap_u64]; unfold lefI; show _ = _ / 1; omega)
  unfold RetB
  go_enter Try.func16, Try.ntmps16
  go_wp2
  go_loopw [6, 7, 8] (fun u x i wr => ∃ k : Nat, k ≤ 4 ∧ i = .int .i64 k ∧ u = .int .u64 (lefI v k) ∧ Hid (Below W.heap.size W wr ∧ Bts W.heap.size wr x (numL v k))) (fun u x i _ => 4 - (intOf i).toNat)
  case atStart => exact ⟨0, by omega, rfl, congrArg (Value.int .u64) HU.out, Lib.hid ⟨Below.refl _ _, Bts.nil _ _⟩⟩
  case round =>
    obtain ⟨k, hk, rfl, rfl, hR⟩ := hrel
    by_cases hlt : k < 4
    · have HB := Lib.hid (lef_bd v k)
      have HN := Lib.hid (lef_next v k)
      have HY := Lib.hid (lef_by v k (by omega))
      have HA := Lib.hid (and255 (lef_bd v k).1 (lef_bd v k).2)
      have HB2 := hR.out.1
      have HO := hR.out.2
      have HL := Lib.hid (numL_length v k)
      clear hR
      have B0 := Lib.hid HB2; have O0 := Lib.hid HO
      clear HB2 HO
      generalize lefI v k = uu at *
      have EA := HA.out
      clear HA
      go_wp2_with (at_builtin; refine wpList_append_b rfl _ _ rfl W.heap.size _ (numL v k) rfl (O0.out.below (below_new (Below.refl _ _) _)) _ 1 1 _ rfl (one_at _ _ (by omega)) (by rw [HL.out]; omega) (Nat.le_trans B0.out.size (by simp)) ?_)
      intro v8 w8 o8 g8
      have O8 := Lib.hid (show Bts W.heap.size w8 v8 (numL v (k + 1)) by rw [numL_next, ← HY.out]; exact o8)
      have B8 := Lib.hid (below_grown (below_new B0.out _) g8 (fun j hj => O0.out.lt j hj))
      clear o8 g8 EA HY O0
      go_wp2_with fail
      go_roundw
      case rel => exact ⟨k + 1, by omega, by go_num, congrArg (Value.int .u64) HN.out, Lib.hid ⟨B8.out, O8.out⟩⟩
      case measure => simp [intOf]; omega
    · obtain rfl : k = 4 := by omega
      go_wp2
      go_ret2
      exact ⟨_, rfl, hR.out.2, hR.out.1⟩
theorem qnum_n (v n : Int) (h0 : -9223372036854775808 ≤ v) (h1 : v ≤ 9223372036854775807) (W : World) : Calls Try.prog 16 #[.int .i64 v, .int .i64 n] W (RetB (bif numB v n then numL v n.toNat else []) (bif numB v n then 0 else 2) W) := by
  unfold numB
  cases h : wid n
  · exact qnum_wid v n h W
  · have h3 : n = 1 ∨ n = 2 ∨ n = 4 := by
      unfold wid at h
      simp only [Bool.or_eq_true, beq_iff_eq] at h
      omega
    rcases h3 with rfl | rfl | rfl
    · show Calls _ _ _ _ (RetB (bif fitB v 1 then numL v 1 else []) (bif fitB v 1 then 0 else 2) W)
      cases g : fitB v 1
      · exact qnum_no1 v h0 h1 g W
      · exact qnum_yes1 v h0 h1 g W
    · show Calls _ _ _ _ (RetB (bif fitB v 2 then numL v 2 else []) (bif fitB v 2 then 0 else 2) W)
      cases g : fitB v 2
      · exact qnum_no2 v h0 h1 g W
      · exact qnum_yes2 v h0 h1 g W
    · show Calls _ _ _ _ (RetB (bif fitB v 4 then numL v 4 else []) (bif fitB v 4 then 0 else 2) W)
      cases g : fitB v 4
      · exact qnum_no4 v h0 h1 g W
      · exact qnum_yes4 v h0 h1 g W
end Go.Proofs.Ytnechhoknaepiaa.Mrm
