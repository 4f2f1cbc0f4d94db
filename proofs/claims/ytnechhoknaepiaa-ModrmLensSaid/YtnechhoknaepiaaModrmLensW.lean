/-
  The walk of the law ModrmLens. (Written by gen_mrr.py.)
-/
import Derived.Test.YtnechhoknaepiaaMrX
namespace Go.Proofs.Ytnechhoknaepiaa.Mrm
open Go.RowKit
set_option linter.unusedVariables false
set_option linter.unnecessarySimpa false
set_option linter.unusedSimpArgs false
set_option maxRecDepth 100000

theorem and7_fin : ∀ r : Fin 16, bits .and .i8 (r.1 : Int) 7 = (r.1 : Int) % 8 := by decide +kernel
theorem and7 {r : Int} (h0 : 0 ≤ r) (h1 : r < 16) : bits .and .i8 r 7 = r % 8 := by
  have := and7_fin ⟨r.toNat, by omega⟩
  simp only [Int.toNat_of_nonneg h0] at this
  exact this
theorem cut_k (a : Int) (n : Nat) (h0 : 0 < n) (h1 : n < 100) : ∃ k : Nat, k < n ∧ (wrap64 (a.tmod (n : Int) + (n : Int))).tmod (n : Int) = (k : Int) := by
  have l1 := Int.tmod_lt_of_pos a (show (0 : Int) < (n : Int) by omega)
  have l2 := Int.lt_tmod_of_pos a (show (0 : Int) < (n : Int) by omega)
  generalize a.tmod (n : Int) = x at *
  have e : wrap64 (x + n) = x + n := by unfold wrap64; omega
  rw [e, Int.tmod_eq_emod_of_nonneg (by omega)]
  have m0 := Int.emod_nonneg (x + n) (show (n : Int) ≠ 0 by omega)
  have m1 := Int.emod_lt_of_pos (x + n) (show (0 : Int) < (n : Int) by omega)
  exact ⟨((x + n) % n).toNat, by omega, by omega⟩
theorem op_rest (r m : Int) : 128 ≤ opI 128 r m ∧ opI 128 r m < 192 ∧ opI 128 r m % 8 = m % 8 := by unfold opI; omega
theorem memL_first (r m d : Int) : memL r m d = opI 128 r m :: (midL m ++ numL d 4) := rfl
theorem memN_at (r m : Int) : atN (opI 128 r m) + 4 = memN m := by
  unfold atN memN
  rw [(op_rest r m).2.2]
  split <;> rfl
theorem read_short (r m d : Int) (k : Nat) (h : k < memN m) : readV ((memL r m d).take k) = rdV 0 0 0 false 0 30 := by
  cases k with
  | zero => rw [List.take_zero]; exact rd_no (by decide) rfl
  | succ k =>
    have e : ((memL r m d).take (k + 1)).getD 0 0 = opI 128 r m := rfl
    refine rd_bad (by rw [e]; exact (op_rest r m).2.1) (fun g => ?_)
    have := g.1
    rw [e, memN_at, List.length_take] at this
    omega
set_option maxHeartbeats 2000000 in
theorem lens_noa (a0 a1 a2 a3 : Int) (w : World) (d0 : -9223372036854775808 ≤ a2) (d1 : a2 ≤ 9223372036854775807) (h : memB a0 a1 a2 = false) (g : bothB a0 a1 = true) :
    Calls Try.prog 8 #[.int .i8 a0, .int .i8 a1, .int .i64 a2, .int .i64 a3] w fun e w' => e = .returned (.bool true) ∧ Below w.heap.size w w' := by
  have RR := Lib.hid (fun W => regs_is a0 a1 W)
  have RM := Lib.hid (fun W => mem_is a0 a1 a2 d0 d1 W)
  have WK := Lib.hid wakes_n
  clear d0 d1
  rw [h] at RM
  rw [g] at RR
  simp only [cond_true, cond_false] at RR RM
  clear h g
  go_enter Try.func8, Try.ntmps8
  go_wp2_with fail
  refine (RR.out _).mono ?_
  rintro e y1 ⟨xa, xc, rfl, E1, b1⟩
  have B1 := Lib.hid b1
  clear E1 b1
  go_wp2_with fail
  refine (RM.out _).mono ?_
  rintro e y2 ⟨ya, yc, rfl, E2, b2⟩
  have B2 := Lib.hid (below_call B1.out b2)
  clear E2 b2
  go_wp2_with fail
  refine (WK.out _).mono ?_
  rintro e y3 ⟨rfl, b3⟩
  have B3 := Lib.hid (below_call B2.out b3)
  clear b3
  go_wp2_with fail
  go_ret
  exact ⟨rfl, B3.out⟩
set_option maxHeartbeats 2000000 in
theorem lens_nob (a0 a1 a2 a3 : Int) (w : World) (d0 : -9223372036854775808 ≤ a2) (d1 : a2 ≤ 9223372036854775807) (h : memB a0 a1 a2 = false) (g : bothB a0 a1 = false) :
    Calls Try.prog 8 #[.int .i8 a0, .int .i8 a1, .int .i64 a2, .int .i64 a3] w fun e w' => e = .returned (.bool true) ∧ Below w.heap.size w w' := by
  have RR := Lib.hid (fun W => regs_is a0 a1 W)
  have RM := Lib.hid (fun W => mem_is a0 a1 a2 d0 d1 W)
  have WK := Lib.hid wakes_n
  clear d0 d1
  rw [h] at RM
  rw [g] at RR
  simp only [cond_true, cond_false] at RR RM
  clear h g
  go_enter Try.func8, Try.ntmps8
  go_wp2_with fail
  refine (RR.out _).mono ?_
  rintro e y1 ⟨xa, xc, rfl, E1, b1⟩
  have B1 := Lib.hid b1
  clear E1 b1
  go_wp2_with fail
  refine (RM.out _).mono ?_
  rintro e y2 ⟨ya, yc, rfl, E2, b2⟩
  have B2 := Lib.hid (below_call B1.out b2)
  clear E2 b2
  go_wp2_with fail
  refine (WK.out _).mono ?_
  rintro e y3 ⟨rfl, b3⟩
  have B3 := Lib.hid (below_call B2.out b3)
  clear b3
  go_wp2_with fail
  go_ret
  exact ⟨rfl, B3.out⟩
set_option maxHeartbeats 2000000 in
theorem lens_yes4 (a0 a1 a2 a3 : Int) (w : World) (d0 : -9223372036854775808 ≤ a2) (d1 : a2 ≤ 9223372036854775807) (h : memB a0 a1 a2 = true) (g : bothB a0 a1 = true) (c4 : a1 % 8 = 4) :
    Calls Try.prog 8 #[.int .i8 a0, .int .i8 a1, .int .i64 a2, .int .i64 a3] w fun e w' => e = .returned (.bool true) ∧ Below w.heap.size w w' := by
  have RR := Lib.hid (fun W => regs_is a0 a1 W)
  have RM := Lib.hid (fun W => mem_is a0 a1 a2 d0 d1 W)
  have WK := Lib.hid wakes_n
  clear d0 d1
  rw [h] at RM
  rw [g] at RR
  simp only [cond_true, cond_false] at RR RM
  unfold memN at RM
  rw [if_pos c4] at RM
  have r1 := (bothB_iff.1 g).2
  obtain ⟨r10, r11⟩ := r1
  have c7 : bits .and .i8 a1 7 = 4 := (and7 r10 r11).trans c4
  obtain ⟨k, hk, ek⟩ := cut_k a3 6 (by decide) (by decide)
  have ek : (wrap64 (a3.tmod 6 + 6)).tmod 6 = (k : Int) := ek
  have RS := Lib.hid (read_short a0 a1 a2 k (by unfold memN; rw [if_pos c4]; exact hk))
  clear c4 h g
  go_enter Try.func8, Try.ntmps8
  go_wp2_with fail
  refine (RR.out _).mono ?_
  rintro e y1 ⟨xa, xc, rfl, E1, b1⟩
  have B1 := Lib.hid b1
  clear E1 b1
  go_wp2_with fail
  refine (RM.out _).mono ?_
  rintro e y2 ⟨ya, yc, rfl, E2, b2⟩
  have B2 := Lib.hid (below_call B1.out b2)
  obtain ⟨B, o, rfl, _⟩ := E2.here (by omega)
  have hyc : k ≤ yc := by have := E2.le; omega
  have hfit := E2.fit
  have RD := Lib.hid (read_n _ _ _ _ y2 (at_cut E2 0 k yc (by omega) hyc hfit))
  rw [List.drop_zero, Nat.add_zero, RS.out] at RD
  unfold rdV at RD
  clear b2 E2 RS
  go_wp2_with fail
  refine RD.out.mono ?_
  rintro e y3 ⟨rfl, b3⟩
  have B3 := Lib.hid (below_call B2.out b3)
  clear b3
  go_wp2_with fail
  refine (WK.out _).mono ?_
  rintro e y4 ⟨rfl, b4⟩
  have B4 := Lib.hid (below_call B3.out b4)
  clear b4
  go_wp2_with fail
  go_ret
  exact ⟨rfl, B4.out⟩
set_option maxHeartbeats 2000000 in
theorem lens_yes5 (a0 a1 a2 a3 : Int) (w : World) (d0 : -9223372036854775808 ≤ a2) (d1 : a2 ≤ 9223372036854775807) (h : memB a0 a1 a2 = true) (g : bothB a0 a1 = true) (c4 : ¬ a1 % 8 = 4) :
    Calls Try.prog 8 #[.int .i8 a0, .int .i8 a1, .int .i64 a2, .int .i64 a3] w fun e w' => e = .returned (.bool true) ∧ Below w.heap.size w w' := by
  have RR := Lib.hid (fun W => regs_is a0 a1 W)
  have RM := Lib.hid (fun W => mem_is a0 a1 a2 d0 d1 W)
  have WK := Lib.hid wakes_n
  clear d0 d1
  rw [h] at RM
  rw [g] at RR
  simp only [cond_true, cond_false] at RR RM
  unfold memN at RM
  rw [if_neg c4] at RM
  have r1 := (bothB_iff.1 g).2
  obtain ⟨r10, r11⟩ := r1
  have c7 : (bits .and .i8 a1 7 == 4) = false := by rw [and7 r10 r11]; simpa using c4
  obtain ⟨k, hk, ek⟩ := cut_k a3 5 (by decide) (by decide)
  have ek : (wrap64 (a3.tmod 5 + 5)).tmod 5 = (k : Int) := ek
  have RS := Lib.hid (read_short a0 a1 a2 k (by unfold memN; rw [if_neg c4]; exact hk))
  clear c4 h g
  go_enter Try.func8, Try.ntmps8
  go_wp2_with fail
  refine (RR.out _).mono ?_
  rintro e y1 ⟨xa, xc, rfl, E1, b1⟩
  have B1 := Lib.hid b1
  clear E1 b1
  go_wp2_with fail
  refine (RM.out _).mono ?_
  rintro e y2 ⟨ya, yc, rfl, E2, b2⟩
  have B2 := Lib.hid (below_call B1.out b2)
  obtain ⟨B, o, rfl, _⟩ := E2.here (by omega)
  have hyc : k ≤ yc := by have := E2.le; omega
  have hfit := E2.fit
  have RD := Lib.hid (read_n _ _ _ _ y2 (at_cut E2 0 k yc (by omega) hyc hfit))
  rw [List.drop_zero, Nat.add_zero, RS.out] at RD
  unfold rdV at RD
  clear b2 E2 RS
  go_wp2_with fail
  refine RD.out.mono ?_
  rintro e y3 ⟨rfl, b3⟩
  have B3 := Lib.hid (below_call B2.out b3)
  clear b3
  go_wp2_with fail
  refine (WK.out _).mono ?_
  rintro e y4 ⟨rfl, b4⟩
  have B4 := Lib.hid (below_call B3.out b4)
  clear b4
  go_wp2_with fail
  go_ret
  exact ⟨rfl, B4.out⟩
theorem lens_law (a0 a1 a2 a3 : Int) (w : World) (w0 : (Lit.int .i8 a0).wf = true) (w1 : (Lit.int .i8 a1).wf = true) (w2 : (Lit.int .i64 a2).wf = true) (w3 : (Lit.int .i64 a3).wf = true) :
    Calls Try.prog 8 #[.int .i8 a0, .int .i8 a1, .int .i64 a2, .int .i64 a3] w fun e w' => e = .returned (.bool true) ∧ Below w.heap.size w w' := by
  obtain ⟨d0, d1⟩ := bd_i64' w2
  cases h : memB a0 a1 a2
  · cases g : bothB a0 a1
    · exact lens_nob a0 a1 a2 a3 w d0 d1 h g
    · exact lens_noa a0 a1 a2 a3 w d0 d1 h g
  · have g : bothB a0 a1 = true := by
      unfold memB at h
      exact (Bool.and_eq_true_iff.1 h).1
    by_cases c4 : a1 % 8 = 4
    · exact lens_yes4 a0 a1 a2 a3 w d0 d1 h g c4
    · exact lens_yes5 a0 a1 a2 a3 w d0 d1 h g c4
end Go.Proofs.Ytnechhoknaepiaa.Mrm
