/-
  The law ModrmBack, way by way. (Written by gen_mrt.py.)
-/
import Derived.Test.YtnechhoknaepiaaMrZ
namespace Go.Proofs.Ytnechhoknaepiaa.Mrm
open Go.RowKit
set_option linter.unusedVariables false
set_option linter.unnecessarySimpa false
set_option linter.unusedSimpArgs false
set_option maxRecDepth 100000

set_option maxHeartbeats 8000000 in
theorem back_ttf_mem (a0 : Bool) (a1 a2 a3 a4 a5 : Int) (B o : Nat) (bl bc : Nat) (zs : List Int) (w : World) (d3 : -9223372036854775808 ≤ a3 ∧ a3 ≤ 9223372036854775807) (d4 : -9223372036854775808 ≤ a4 ∧ a4 ≤ 9223372036854775807) (hE : BytesAt w (some ⟨B, o, none⟩) bl bc zs) (hl : bl ≤ 100) (g1 : bothB a1 a2 = true) (g2 : fitB a3 4 = true) (g3 : numB a4 a5 = false) (r m d : Int) (k : Nat) (dd : -9223372036854775808 ≤ d ∧ d ≤ 9223372036854775807) (g4 : readV zs = rdV r m d true (k : Int) 0) (g5 : memB r m d = true) (g6 : memL r m d = zs.take k) (k0 : 0 < k) (k1 : k ≤ bl) :
    Calls Try.prog 5 #[.bool a0, .int .i8 a1, .int .i8 a2, .int .i64 a3, .int .i64 a4, .int .i64 a5, .slice (some ⟨B, o, none⟩) bl bc] w fun e w' => e = .returned (.bool true) ∧ Below w.heap.size w w' := by
  have WK := Lib.hid wakes_n
  have hl2 : (bl : Int) ≤ 100 := by omega
  have HE := Lib.hid hE
  have HZ := Lib.hid hE.size
  have RX := fun W => rex_n a0 a1 a2 W
  have RM := fun W => mem_is a1 a2 a3 d3.1 d3.2 W
  have RN := fun W => num_is a4 a5 d4.1 d4.2 W
  have RB := Lib.hid (fun w' b => read_n _ _ _ _ w' (hE.below (w := w') b))
  rw [g4] at RB
  unfold rdV at RB
  obtain ⟨e1, e2, e3, e4, e5, e6, e7⟩ := rex_back a0 g1
  obtain ⟨r1, r2⟩ := bothB_iff.1 g1
  have RR := fun W => readrex_n (rexI a0 a1 a2) e5 e6 W
  unfold rrV at RR
  rw [e1, e2, e3, e4] at RR
  have ND := fun W => needs_n a1 a2 W
  rw [e7] at ND
  have RG := fun W => regs_is a1 a2 W
  have a71 := and7b r1
  have a72 := and7b r2
  have a81 := and8 r1
  have a82 := and8 r2
  unfold memB at RM
  rw [g1] at RX RG RM
  rw [g2] at RM
  have RR := Lib.hid RR
  have ND := Lib.hid ND
  simp only [Bool.true_and, cond_true, cond_false, Bool.and_self] at RX RG RM
  have RG := Lib.hid RG
  have RQ := Lib.hid (read_reg_back a1 a2 zs)
  have QO := Lib.hid ((regL_ok a1 a2).append hE.ok)
  have QL := Lib.hid (show (regL a1 a2).length = 1 from rfl)
  have MQ := Lib.hid (read_mem_back a1 a2 a3 zs g2)
  have MO := Lib.hid ((memL_ok a1 a2 a3).append hE.ok)
  have ML := Lib.hid (memL_length a1 a2 a3)
  have MN := Lib.hid (show memN a2 ≤ 6 by unfold memN; split <;> omega)
  unfold rdV at MQ
  unfold rdV at RQ
  generalize rexI a0 a1 a2 = xr at *
  clear e1 e2 e3 e4 e5 e6 e7 r1 r2
  rw [g3] at RN
  simp only [cond_false] at RN
  have PG := Lib.hid (fun W => regs_is r m W)
  have PM := fun W => mem_is r m d dd.1 dd.2 W
  have hln : memN m = k := by rw [← memL_length r m d, g6, List.length_take]; have := hE.size; omega
  rw [g5, g6] at PM
  simp only [cond_true] at PM
  rw [hln] at PM
  have PM := Lib.hid PM
  have hk0 : (0 : Int) < (k : Int) := by omega
  have hk1 : (k : Int) ≤ (bl : Int) := by omega
  have hk2 : (k : Int) ≤ (bc : Int) := by have := hE.le; omega
  have CB := Lib.hid (fun w' b => conv_bytes ((at_cut hE 0 k bc (by omega) (by have := hE.le; omega) hE.fit).below (w := w') b))
  rw [List.drop_zero, Nat.add_zero] at CB
  generalize zs.take k = zk at *
  have RX := Lib.hid RX
  have RM := Lib.hid RM
  have RN := Lib.hid RN
  clear hE d3 d4 g3 g4 g1 g2 g5 g6 dd hln
  go_enter Try.func5, Try.ntmps5
  go_wp2_with fail
  refine (RX.out _).mono ?_
  rintro e y1 ⟨rfl, rfl⟩
  go_wp2_with fail
  refine (RR.out _).mono ?_
  rintro e y1 ⟨rfl, rfl⟩
  go_wp2_with fail
  refine (ND.out _).mono ?_
  rintro e y1 ⟨rfl, rfl⟩
  go_wp2_with fail
  refine (RG.out _).mono ?_
  rintro e w1 ⟨xa, xc, rfl, e1, b1⟩
  have B1 := Lib.hid b1
  have E1 := Lib.hid e1
  clear e1 b1
  have S1 := B1.out.size
  go_wp2_with (at_builtin; refine wpList_append_b rfl _ _ rfl w.heap.size _ [] rfl (zero_own w1 B1.out.size) _ 1 xc (regL a1 a2) rfl (E1.out.below (below_new (Below.refl _ _) _)) (by simp) (Nat.le_trans B1.out.size (by simp)) ?_)
  intro v2 w2 o2 g2
  have O2 := Lib.hid o2
  have B2 := Lib.hid (below_grown (below_new B1.out _) g2 (fun j hj => by simp [Value.ownBlock] at hj; omega))
  clear o2 g2
  go_wp2_with (at_builtin; refine wpList_append_b rfl _ _ rfl w.heap.size _ _ rfl O2.out _ bl bc zs rfl (HE.out.below B2.out) (by have := QL.out; simp; omega) B2.out.size ?_)
  intro v3 w3 o3 g3
  have B3 := Lib.hid (below_grown B2.out g3 (fun j hj => O2.out.lt j hj))
  have o3 : Bts w.heap.size w3 v3 (regL a1 a2 ++ zs) := o3
  obtain ⟨ya1, yc1, rfl, e3⟩ := o3.at QO.out
  have RD := Lib.hid (read_n ya1 _ yc1 _ w3 e3)
  rw [RQ.out] at RD
  clear o3 g3 e3
  generalize (regL a1 a2 ++ zs).length = n1 at *
  go_wp2_with fail
  refine RD.out.mono ?_
  rintro e w4 ⟨rfl, b4⟩
  have B4 := Lib.hid (below_call B3.out b4)
  clear b4 RD
  go_wp2_with fail
  refine (RM.out _).mono ?_
  rintro e w5 ⟨ma, mc, rfl, e5, b5⟩
  have B5 := Lib.hid (below_call B4.out b5)
  have E5 := Lib.hid e5
  clear e5 b5
  have S5 := B5.out.size
  go_wp2_with (at_builtin; refine wpList_append_b rfl _ _ rfl w.heap.size _ [] rfl (zero_own w5 B5.out.size) _ (memN a2) mc (memL a1 a2 a3) rfl (E5.out.below (below_new (Below.refl _ _) _)) (by have := MN.out; simp; omega) (Nat.le_trans B5.out.size (by simp)) ?_)
  intro v6 w6 o6 g6
  have O6 := Lib.hid o6
  have B6 := Lib.hid (below_grown (below_new B5.out _) g6 (fun j hj => by simp [Value.ownBlock] at hj; omega))
  clear o6 g6
  go_wp2_with (at_builtin; refine wpList_append_b rfl _ _ rfl w.heap.size _ _ rfl O6.out _ bl bc zs rfl (HE.out.below B6.out) (by have := ML.out; have := MN.out; simp; omega) B6.out.size ?_)
  intro v7 w7 o7 g7
  have B7 := Lib.hid (below_grown B6.out g7 (fun j hj => O6.out.lt j hj))
  have o7 : Bts w.heap.size w7 v7 (memL a1 a2 a3 ++ zs) := o7
  obtain ⟨ya5, yc5, rfl, e7⟩ := o7.at MO.out
  have RD := Lib.hid (read_n ya5 _ yc5 _ w7 e7)
  rw [MQ.out] at RD
  clear o7 g7 e7
  generalize (memL a1 a2 a3 ++ zs).length = n5 at *
  go_wp2_with fail
  refine RD.out.mono ?_
  rintro e w8 ⟨rfl, b8⟩
  have B8 := Lib.hid (below_call B7.out b8)
  clear b8 RD
  go_wp2_with fail
  refine (RN.out _).mono ?_
  rintro e w9 ⟨na, nc, rfl, e9, b9⟩
  have B9 := Lib.hid (below_call B8.out b9)
  clear e9 b9
  go_wp2_with fail
  refine (RB.out _ B9.out).mono ?_
  rintro e w10 ⟨rfl, b10⟩
  have B10 := Lib.hid (below_call B9.out b10)
  clear b10
  go_wp2_with fail
  refine (PG.out _).mono ?_
  rintro e w11 ⟨pa, pc, rfl, e11, b11⟩
  have B11 := Lib.hid (below_call B10.out b11)
  clear e11 b11
  go_wp2_with fail
  refine (PM.out _).mono ?_
  rintro e w12 ⟨qa, qc, rfl, e12, b12⟩
  have B12 := Lib.hid (below_call B11.out b12)
  have CA := Lib.hid (fun w' b => conv_bytes (e12.below (w := w') b))
  clear e12 b12
  go_wp2_with fail
  have KN := Lib.hid (fun w' (b : Below w12.heap.size w12 w') => show (convert 26 9 (.slice qa k qc)).run Try.prog w' = .ok (.string (strOfNums zk)) w' ∧ (convert 26 9 (.slice (some ⟨B, o, none⟩) k bc)).run Try.prog w' = .ok (.string (strOfNums zk)) w' ∧ Below w12.heap.size w12 w' from ⟨CA.out w' b, CB.out w' (below_call B12.out b), b⟩)
  go_region_held3 (fun w' => (convert 26 9 (.slice qa k qc)).run Try.prog w' = .ok (.string (strOfNums zk)) w' ∧ (convert 26 9 (.slice (some ⟨B, o, none⟩) k bc)).run Try.prog w' = .ok (.string (strOfNums zk)) w' ∧ Below w12.heap.size w12 w') ((go_split_ands; refine KN.out _ ?_; repeat' (first | assumption | exact Below.refl _ _ | apply Below.drew | (refine below_call ?_ b13)))) ((go_at_call 19; refine (WK.out _).mono ?_; rintro e w13 ⟨rfl, b13⟩))
  all_goals (
  go_wp2_with fail
  go_ret
  exact ⟨rfl, below_call B12.out (by repeat' (first | assumption | exact Below.refl _ _ | apply Below.drew | (refine below_call ?_ b13)))⟩)
set_option maxHeartbeats 8000000 in
theorem back_tff_mem (a0 : Bool) (a1 a2 a3 a4 a5 : Int) (B o : Nat) (bl bc : Nat) (zs : List Int) (w : World) (d3 : -9223372036854775808 ≤ a3 ∧ a3 ≤ 9223372036854775807) (d4 : -9223372036854775808 ≤ a4 ∧ a4 ≤ 9223372036854775807) (hE : BytesAt w (some ⟨B, o, none⟩) bl bc zs) (hl : bl ≤ 100) (g1 : bothB a1 a2 = true) (g2 : fitB a3 4 = false) (g3 : numB a4 a5 = false) (r m d : Int) (k : Nat) (dd : -9223372036854775808 ≤ d ∧ d ≤ 9223372036854775807) (g4 : readV zs = rdV r m d true (k : Int) 0) (g5 : memB r m d = true) (g6 : memL r m d = zs.take k) (k0 : 0 < k) (k1 : k ≤ bl) :
    Calls Try.prog 5 #[.bool a0, .int .i8 a1, .int .i8 a2, .int .i64 a3, .int .i64 a4, .int .i64 a5, .slice (some ⟨B, o, none⟩) bl bc] w fun e w' => e = .returned (.bool true) ∧ Below w.heap.size w w' := by
  have WK := Lib.hid wakes_n
  have hl2 : (bl : Int) ≤ 100 := by omega
  have HE := Lib.hid hE
  have HZ := Lib.hid hE.size
  have RX := fun W => rex_n a0 a1 a2 W
  have RM := fun W => mem_is a1 a2 a3 d3.1 d3.2 W
  have RN := fun W => num_is a4 a5 d4.1 d4.2 W
  have RB := Lib.hid (fun w' b => read_n _ _ _ _ w' (hE.below (w := w') b))
  rw [g4] at RB
  unfold rdV at RB
  obtain ⟨e1, e2, e3, e4, e5, e6, e7⟩ := rex_back a0 g1
  obtain ⟨r1, r2⟩ := bothB_iff.1 g1
  have RR := fun W => readrex_n (rexI a0 a1 a2) e5 e6 W
  unfold rrV at RR
  rw [e1, e2, e3, e4] at RR
  have ND := fun W => needs_n a1 a2 W
  rw [e7] at ND
  have RG := fun W => regs_is a1 a2 W
  have a71 := and7b r1
  have a72 := and7b r2
  have a81 := and8 r1
  have a82 := and8 r2
  unfold memB at RM
  rw [g1] at RX RG RM
  rw [g2] at RM
  have RR := Lib.hid RR
  have ND := Lib.hid ND
  simp only [Bool.true_and, cond_true, cond_false, Bool.and_self] at RX RG RM
  have RG := Lib.hid RG
  have RQ := Lib.hid (read_reg_back a1 a2 zs)
  have QO := Lib.hid ((regL_ok a1 a2).append hE.ok)
  have QL := Lib.hid (show (regL a1 a2).length = 1 from rfl)
  unfold rdV at RQ
  generalize rexI a0 a1 a2 = xr at *
  clear e1 e2 e3 e4 e5 e6 e7 r1 r2
  rw [g3] at RN
  simp only [cond_false] at RN
  have PG := Lib.hid (fun W => regs_is r m W)
  have PM := fun W => mem_is r m d dd.1 dd.2 W
  have hln : memN m = k := by rw [← memL_length r m d, g6, List.length_take]; have := hE.size; omega
  rw [g5, g6] at PM
  simp only [cond_true] at PM
  rw [hln] at PM
  have PM := Lib.hid PM
  have hk0 : (0 : Int) < (k : Int) := by omega
  have hk1 : (k : Int) ≤ (bl : Int) := by omega
  have hk2 : (k : Int) ≤ (bc : Int) := by have := hE.le; omega
  have CB := Lib.hid (fun w' b => conv_bytes ((at_cut hE 0 k bc (by omega) (by have := hE.le; omega) hE.fit).below (w := w') b))
  rw [List.drop_zero, Nat.add_zero] at CB
  generalize zs.take k = zk at *
  have RX := Lib.hid RX
  have RM := Lib.hid RM
  have RN := Lib.hid RN
  clear hE d3 d4 g3 g4 g1 g2 g5 g6 dd hln
  go_enter Try.func5, Try.ntmps5
  go_wp2_with fail
  refine (RX.out _).mono ?_
  rintro e y1 ⟨rfl, rfl⟩
  go_wp2_with fail
  refine (RR.out _).mono ?_
  rintro e y1 ⟨rfl, rfl⟩
  go_wp2_with fail
  refine (ND.out _).mono ?_
  rintro e y1 ⟨rfl, rfl⟩
  go_wp2_with fail
  refine (RG.out _).mono ?_
  rintro e w1 ⟨xa, xc, rfl, e1, b1⟩
  have B1 := Lib.hid b1
  have E1 := Lib.hid e1
  clear e1 b1
  have S1 := B1.out.size
  go_wp2_with (at_builtin; refine wpList_append_b rfl _ _ rfl w.heap.size _ [] rfl (zero_own w1 B1.out.size) _ 1 xc (regL a1 a2) rfl (E1.out.below (below_new (Below.refl _ _) _)) (by simp) (Nat.le_trans B1.out.size (by simp)) ?_)
  intro v2 w2 o2 g2
  have O2 := Lib.hid o2
  have B2 := Lib.hid (below_grown (below_new B1.out _) g2 (fun j hj => by simp [Value.ownBlock] at hj; omega))
  clear o2 g2
  go_wp2_with (at_builtin; refine wpList_append_b rfl _ _ rfl w.heap.size _ _ rfl O2.out _ bl bc zs rfl (HE.out.below B2.out) (by have := QL.out; simp; omega) B2.out.size ?_)
  intro v3 w3 o3 g3
  have B3 := Lib.hid (below_grown B2.out g3 (fun j hj => O2.out.lt j hj))
  have o3 : Bts w.heap.size w3 v3 (regL a1 a2 ++ zs) := o3
  obtain ⟨ya1, yc1, rfl, e3⟩ := o3.at QO.out
  have RD := Lib.hid (read_n ya1 _ yc1 _ w3 e3)
  rw [RQ.out] at RD
  clear o3 g3 e3
  generalize (regL a1 a2 ++ zs).length = n1 at *
  go_wp2_with fail
  refine RD.out.mono ?_
  rintro e w4 ⟨rfl, b4⟩
  have B4 := Lib.hid (below_call B3.out b4)
  clear b4 RD
  go_wp2_with fail
  refine (RM.out _).mono ?_
  rintro e w5 ⟨ma, mc, rfl, e5, b5⟩
  have B5 := Lib.hid (below_call B4.out b5)
  clear e5 b5
  go_wp2_with fail
  refine (RN.out _).mono ?_
  rintro e w9 ⟨na, nc, rfl, e9, b9⟩
  have B6 := Lib.hid (below_call B5.out b9)
  clear e9 b9
  go_wp2_with fail
  refine (RB.out _ B6.out).mono ?_
  rintro e w10 ⟨rfl, b10⟩
  have B7 := Lib.hid (below_call B6.out b10)
  clear b10
  go_wp2_with fail
  refine (PG.out _).mono ?_
  rintro e w11 ⟨pa, pc, rfl, e11, b11⟩
  have B8 := Lib.hid (below_call B7.out b11)
  clear e11 b11
  go_wp2_with fail
  refine (PM.out _).mono ?_
  rintro e w12 ⟨qa, qc, rfl, e12, b12⟩
  have B9 := Lib.hid (below_call B8.out b12)
  have CA := Lib.hid (fun w' b => conv_bytes (e12.below (w := w') b))
  clear e12 b12
  go_wp2_with fail
  have KN := Lib.hid (fun w' (b : Below w12.heap.size w12 w') => show (convert 26 9 (.slice qa k qc)).run Try.prog w' = .ok (.string (strOfNums zk)) w' ∧ (convert 26 9 (.slice (some ⟨B, o, none⟩) k bc)).run Try.prog w' = .ok (.string (strOfNums zk)) w' ∧ Below w12.heap.size w12 w' from ⟨CA.out w' b, CB.out w' (below_call B9.out b), b⟩)
  go_region_held3 (fun w' => (convert 26 9 (.slice qa k qc)).run Try.prog w' = .ok (.string (strOfNums zk)) w' ∧ (convert 26 9 (.slice (some ⟨B, o, none⟩) k bc)).run Try.prog w' = .ok (.string (strOfNums zk)) w' ∧ Below w12.heap.size w12 w') ((go_split_ands; refine KN.out _ ?_; repeat' (first | assumption | exact Below.refl _ _ | apply Below.drew | (refine below_call ?_ b13)))) ((go_at_call 19; refine (WK.out _).mono ?_; rintro e w13 ⟨rfl, b13⟩))
  all_goals (
  go_wp2_with fail
  go_ret
  exact ⟨rfl, below_call B9.out (by repeat' (first | assumption | exact Below.refl _ _ | apply Below.drew | (refine below_call ?_ b13)))⟩)
set_option maxHeartbeats 8000000 in
theorem back_fff_mem (a0 : Bool) (a1 a2 a3 a4 a5 : Int) (B o : Nat) (bl bc : Nat) (zs : List Int) (w : World) (d3 : -9223372036854775808 ≤ a3 ∧ a3 ≤ 9223372036854775807) (d4 : -9223372036854775808 ≤ a4 ∧ a4 ≤ 9223372036854775807) (hE : BytesAt w (some ⟨B, o, none⟩) bl bc zs) (hl : bl ≤ 100) (g1 : bothB a1 a2 = false) (g3 : numB a4 a5 = false) (r m d : Int) (k : Nat) (dd : -9223372036854775808 ≤ d ∧ d ≤ 9223372036854775807) (g4 : readV zs = rdV r m d true (k : Int) 0) (g5 : memB r m d = true) (g6 : memL r m d = zs.take k) (k0 : 0 < k) (k1 : k ≤ bl) :
    Calls Try.prog 5 #[.bool a0, .int .i8 a1, .int .i8 a2, .int .i64 a3, .int .i64 a4, .int .i64 a5, .slice (some ⟨B, o, none⟩) bl bc] w fun e w' => e = .returned (.bool true) ∧ Below w.heap.size w w' := by
  have WK := Lib.hid wakes_n
  have hl2 : (bl : Int) ≤ 100 := by omega
  have HE := Lib.hid hE
  have HZ := Lib.hid hE.size
  have RX := fun W => rex_n a0 a1 a2 W
  have RM := fun W => mem_is a1 a2 a3 d3.1 d3.2 W
  have RN := fun W => num_is a4 a5 d4.1 d4.2 W
  have RB := Lib.hid (fun w' b => read_n _ _ _ _ w' (hE.below (w := w') b))
  rw [g4] at RB
  unfold rdV at RB
  unfold memB at RM
  rw [g1] at RX RM
  simp only [Bool.false_and, cond_false] at RX RM
  rw [g3] at RN
  simp only [cond_false] at RN
  have PG := Lib.hid (fun W => regs_is r m W)
  have PM := fun W => mem_is r m d dd.1 dd.2 W
  have hln : memN m = k := by rw [← memL_length r m d, g6, List.length_take]; have := hE.size; omega
  rw [g5, g6] at PM
  simp only [cond_true] at PM
  rw [hln] at PM
  have PM := Lib.hid PM
  have hk0 : (0 : Int) < (k : Int) := by omega
  have hk1 : (k : Int) ≤ (bl : Int) := by omega
  have hk2 : (k : Int) ≤ (bc : Int) := by have := hE.le; omega
  have CB := Lib.hid (fun w' b => conv_bytes ((at_cut hE 0 k bc (by omega) (by have := hE.le; omega) hE.fit).below (w := w') b))
  rw [List.drop_zero, Nat.add_zero] at CB
  generalize zs.take k = zk at *
  have RX := Lib.hid RX
  have RM := Lib.hid RM
  have RN := Lib.hid RN
  clear hE d3 d4 g3 g4 g1 g5 g6 dd hln
  go_enter Try.func5, Try.ntmps5
  go_wp2_with fail
  refine (RX.out _).mono ?_
  rintro e y1 ⟨rfl, rfl⟩
  go_wp2_with fail
  refine (RM.out _).mono ?_
  rintro e w5 ⟨ma, mc, rfl, e5, b5⟩
  have B1 := Lib.hid b5
  clear e5 b5
  go_wp2_with fail
  refine (RN.out _).mono ?_
  rintro e w9 ⟨na, nc, rfl, e9, b9⟩
  have B2 := Lib.hid (below_call B1.out b9)
  clear e9 b9
  go_wp2_with fail
  refine (RB.out _ B2.out).mono ?_
  rintro e w10 ⟨rfl, b10⟩
  have B3 := Lib.hid (below_call B2.out b10)
  clear b10
  go_wp2_with fail
  refine (PG.out _).mono ?_
  rintro e w11 ⟨pa, pc, rfl, e11, b11⟩
  have B4 := Lib.hid (below_call B3.out b11)
  clear e11 b11
  go_wp2_with fail
  refine (PM.out _).mono ?_
  rintro e w12 ⟨qa, qc, rfl, e12, b12⟩
  have B5 := Lib.hid (below_call B4.out b12)
  have CA := Lib.hid (fun w' b => conv_bytes (e12.below (w := w') b))
  clear e12 b12
  go_wp2_with fail
  have KN := Lib.hid (fun w' (b : Below w12.heap.size w12 w') => show (convert 26 9 (.slice qa k qc)).run Try.prog w' = .ok (.string (strOfNums zk)) w' ∧ (convert 26 9 (.slice (some ⟨B, o, none⟩) k bc)).run Try.prog w' = .ok (.string (strOfNums zk)) w' ∧ Below w12.heap.size w12 w' from ⟨CA.out w' b, CB.out w' (below_call B5.out b), b⟩)
  go_region_held3 (fun w' => (convert 26 9 (.slice qa k qc)).run Try.prog w' = .ok (.string (strOfNums zk)) w' ∧ (convert 26 9 (.slice (some ⟨B, o, none⟩) k bc)).run Try.prog w' = .ok (.string (strOfNums zk)) w' ∧ Below w12.heap.size w12 w') ((go_split_ands; refine KN.out _ ?_; repeat' (first | assumption | exact Below.refl _ _ | apply Below.drew | (refine below_call ?_ b13)))) ((go_at_call 19; refine (WK.out _).mono ?_; rintro e w13 ⟨rfl, b13⟩))
  all_goals (
  go_wp2_with fail
  go_ret
  exact ⟨rfl, below_call B5.out (by repeat' (first | assumption | exact Below.refl _ _ | apply Below.drew | (refine below_call ?_ b13)))⟩)
end Go.Proofs.Ytnechhoknaepiaa.Mrm
