/-
  The walk of the law ModrmApart. (Written by gen_mrs.py.)
-/
import Derived.Test.YtnechhoknaepiaaMrX
namespace Go.Proofs.Ytnechhoknaepiaa.Mrm
open Go.RowKit
set_option linter.unusedVariables false
set_option linter.unnecessarySimpa false
set_option linter.unusedSimpArgs false
set_option maxRecDepth 100000

theorem str_ne {zs ys : List Int} (h1 : Oks zs) (h2 : Oks ys) (h : ¬ zs = ys) : ((strOfNums zs).toList == (strOfNums ys).toList) = false := by
  rw [beq_eq_false_iff_ne]
  exact fun e => h (str_inj h1 h2 (by
    rw [ByteArray.toList_eq, ByteArray.toList_eq] at e
    exact ByteArray.ext (Array.toList_inj.1 e)))
theorem and7a_fin : ∀ r : Fin 16, bits .and .i8 (r.1 : Int) 7 = (r.1 : Int) % 8 := by decide +kernel
theorem and7a {r : Int} (h : 0 ≤ r ∧ r < 16) : bits .and .i8 r 7 = r % 8 := by
  have := and7a_fin ⟨r.toNat, by omega⟩
  simp only [Int.toNat_of_nonneg h.1] at this
  exact this
theorem op_inj {k a b c d : Int} (h : opI k a b = opI k c d) : a % 8 = c % 8 ∧ b % 8 = d % 8 := by unfold opI at h; omega
theorem op_same {k a b c d : Int} (h1 : a % 8 = c % 8) (h2 : b % 8 = d % 8) : opI k a b = opI k c d := by unfold opI; rw [h1, h2]
theorem regL_same {a b c d : Int} (h1 : a % 8 = c % 8) (h2 : b % 8 = d % 8) : regL a b = regL c d := by unfold regL; rw [op_same h1 h2]
theorem regL_ne {a b c d : Int} (h : ¬ (a % 8 = c % 8 ∧ b % 8 = d % 8)) : ¬ regL a b = regL c d := fun e => h (op_inj (List.cons.inj e).1)
theorem fitB_iff {x : Int} : fitB x 4 = true ↔ -2147483648 ≤ x ∧ x < 2147483648 := by
  unfold fitB
  rw [← Bool.decide_and, decide_eq_true_iff]
  exact Iff.rfl
theorem num_inj {x y : Int} (hx : fitB x 4 = true) (hy : fitB y 4 = true) (h : numL x 4 = numL y 4) : x = y := by
  have gx := fitB_iff.1 hx
  have gy := fitB_iff.1 hy
  have h' : [byS x 0, byS x 1, byS x 2, byS x 3] = [byS y 0, byS y 1, byS y 2, byS y 3] := h
  injection h' with e0 h'
  injection h' with e1 h'
  injection h' with e2 h'
  injection h' with e3 h'
  unfold byS at e0 e1 e2 e3
  have f0 : x / 1 % 256 = y / 1 % 256 := e0
  have f1 : x / 256 % 256 = y / 256 % 256 := e1
  have f2 : x / 65536 % 256 = y / 65536 % 256 := e2
  have f3 : x / 16777216 % 256 = y / 16777216 % 256 := e3
  omega
theorem memL_same {a b c d x y : Int} (h1 : a % 8 = c % 8) (h2 : b % 8 = d % 8) (h3 : x = y) : memL a b x = memL c d y := by
  subst h3
  unfold memL midL
  rw [op_same h1 h2, h2]
theorem memL_ne {a b c d x y : Int} (hx : fitB x 4 = true) (hy : fitB y 4 = true) (h : ¬ (a % 8 = c % 8 ∧ b % 8 = d % 8 ∧ x = y)) : ¬ memL a b x = memL c d y := fun e => by
  have e' : opI 128 a b :: (midL b ++ numL x 4) = opI 128 c d :: (midL d ++ numL y 4) := e
  injection e' with e1 e2
  obtain ⟨g1, g2⟩ := op_inj e1
  have g3 : midL b = midL d := by unfold midL; rw [g2]
  rw [g3] at e2
  exact h ⟨g1, g2, num_inj hx hy (List.append_cancel_left e2)⟩
theorem memL_regL {a b x : Int} : ¬ memL a b x = regL a b := fun e => by
  have h := congrArg List.length e
  rw [memL_length] at h
  have : (regL a b).length = 1 := rfl
  unfold memN at h
  split at h <;> omega
theorem bd_i64a {a : Int} (h : (Lit.int .i64 a).wf = true) : -9223372036854775808 ≤ a ∧ a ≤ 9223372036854775807 := by
  simpa [Lit.wf, IntKind.min, IntKind.max, IntKind.bits, IntKind.signed] using h
theorem nil_ok : Oks [] := fun z hz => by cases hz
set_option maxHeartbeats 2000000 in
theorem apart_a (a b c d x y : Int) (w : World) (dx : -9223372036854775808 ≤ x ∧ x ≤ 9223372036854775807) (dy : -9223372036854775808 ≤ y ∧ y ≤ 9223372036854775807) (hab : bothB a b = false) :
    Calls Try.prog 6 #[.int .i8 a, .int .i8 b, .int .i8 c, .int .i8 d, .int .i64 x, .int .i64 y] w fun e w' => e = .returned (.bool true) ∧ Below w.heap.size w w' := by
  have M1 := fun W => mem_n a b x dx.1 dx.2 W
  have M2 := fun W => mem_n c d y dy.1 dy.2 W
  have G1 := fun W => regs_n a b W
  have G2 := fun W => regs_n c d W
  have WK := Lib.hid wakes_n
  unfold MemB memB at M1 M2
  clear dx dy
  rw [hab] at M1 G1
  simp only [Bool.true_and, Bool.false_and, Bool.and_false, Bool.and_true, cond_true, cond_false] at M1 M2 G1 G2
  have K2 := Lib.hid (bif_oks (b := bothB c d && fitB y 4) (memL_ok c d y))
  have K4 := Lib.hid (bif_oks (b := bothB c d) (regL_ok c d))
  generalize (bif (bothB c d && fitB y 4) then memL c d y else []) = l2 at *
  generalize (bif (bothB c d && fitB y 4) then (0 : Int) else 2) = e2 at *
  generalize (bif bothB c d then regL c d else []) = l4 at *
  generalize (bif bothB c d then (0 : Int) else 2) = e4 at *
  have K1 := Lib.hid (nil_ok)
  have K3 := Lib.hid (nil_ok)
  clear hab
  generalize memL a b x = p1 at *
  generalize memL c d y = p2 at *
  generalize regL a b = p3 at *
  generalize regL c d = p4 at *
  have M1 := Lib.hid M1
  have M2 := Lib.hid M2
  have G1 := Lib.hid G1
  have G2 := Lib.hid G2
  go_enter Try.func6, Try.ntmps6
  go_wp2_with fail
  refine (M1.out _).mono ?_
  rintro e y0 ⟨u0, rfl, o0, b0⟩
  have O0_0 := Lib.hid (o0.mono (Nat.le_refl _))
  have B0 := Lib.hid b0
  clear o0 b0
  go_wp2_with fail
  refine (M2.out _).mono ?_
  rintro e y1 ⟨u1, rfl, o1, b1⟩
  have O0_1 := Lib.hid (O0_0.out.below b1)
  have O1_1 := Lib.hid (o1.mono B0.out.size)
  have B1 := Lib.hid (below_call B0.out b1)
  clear o1 b1 O0_0
  go_wp2_with fail
  refine (G1.out _).mono ?_
  rintro e y2 ⟨u2, rfl, o2, b2⟩
  have O0_2 := Lib.hid (O0_1.out.below b2)
  have O1_2 := Lib.hid (O1_1.out.below b2)
  have O2_2 := Lib.hid (o2.mono B1.out.size)
  have B2 := Lib.hid (below_call B1.out b2)
  clear o2 b2 O0_1 O1_1
  go_wp2_with fail
  refine (G2.out _).mono ?_
  rintro e y3 ⟨u3, rfl, o3, b3⟩
  have O0_3 := Lib.hid (O0_2.out.below b3)
  have O1_3 := Lib.hid (O1_2.out.below b3)
  have O2_3 := Lib.hid (O2_2.out.below b3)
  have O3_3 := Lib.hid (o3.mono B2.out.size)
  have B3 := Lib.hid (below_call B2.out b3)
  clear o3 b3 O0_2 O1_2 O2_2
  go_wp2_with fail
  refine (WK.out _).mono ?_
  rintro e y4 ⟨rfl, b4⟩
  have B4 := Lib.hid (below_call B3.out b4)
  clear b4
  go_wp2_with fail
  go_ret
  exact ⟨rfl, B4.out⟩
set_option maxHeartbeats 2000000 in
theorem apart_b1 (a b c d x y : Int) (w : World) (dx : -9223372036854775808 ≤ x ∧ x ≤ 9223372036854775807) (dy : -9223372036854775808 ≤ y ∧ y ≤ 9223372036854775807) (hab : bothB a b = true) (hcd : bothB c d = false) (hfx : fitB x 4 = true) :
    Calls Try.prog 6 #[.int .i8 a, .int .i8 b, .int .i8 c, .int .i8 d, .int .i64 x, .int .i64 y] w fun e w' => e = .returned (.bool true) ∧ Below w.heap.size w w' := by
  have M1 := fun W => mem_n a b x dx.1 dx.2 W
  have M2 := fun W => mem_n c d y dy.1 dy.2 W
  have G1 := fun W => regs_n a b W
  have G2 := fun W => regs_n c d W
  have WK := Lib.hid wakes_n
  unfold MemB memB at M1 M2
  clear dx dy
  rw [hab] at M1 G1
  rw [hcd] at M2 G2
  rw [hfx] at M1
  simp only [Bool.true_and, Bool.false_and, Bool.and_false, Bool.and_true, cond_true, cond_false] at M1 M2 G1 G2
  have K1 := Lib.hid (memL_ok a b x)
  have K2 := Lib.hid (nil_ok)
  have K3 := Lib.hid (regL_ok a b)
  have K4 := Lib.hid (nil_ok)
  clear hab hcd hfx
  generalize memL a b x = p1 at *
  generalize memL c d y = p2 at *
  generalize regL a b = p3 at *
  generalize regL c d = p4 at *
  have M1 := Lib.hid M1
  have M2 := Lib.hid M2
  have G1 := Lib.hid G1
  have G2 := Lib.hid G2
  go_enter Try.func6, Try.ntmps6
  go_wp2_with fail
  refine (M1.out _).mono ?_
  rintro e y0 ⟨u0, rfl, o0, b0⟩
  have O0_0 := Lib.hid (o0.mono (Nat.le_refl _))
  have B0 := Lib.hid b0
  clear o0 b0
  go_wp2_with fail
  refine (M2.out _).mono ?_
  rintro e y1 ⟨u1, rfl, o1, b1⟩
  have O0_1 := Lib.hid (O0_0.out.below b1)
  have O1_1 := Lib.hid (o1.mono B0.out.size)
  have B1 := Lib.hid (below_call B0.out b1)
  clear o1 b1 O0_0
  go_wp2_with fail
  refine (G1.out _).mono ?_
  rintro e y2 ⟨u2, rfl, o2, b2⟩
  have O0_2 := Lib.hid (O0_1.out.below b2)
  have O1_2 := Lib.hid (O1_1.out.below b2)
  have O2_2 := Lib.hid (o2.mono B1.out.size)
  have B2 := Lib.hid (below_call B1.out b2)
  clear o2 b2 O0_1 O1_1
  go_wp2_with fail
  refine (G2.out _).mono ?_
  rintro e y3 ⟨u3, rfl, o3, b3⟩
  have O0_3 := Lib.hid (O0_2.out.below b3)
  have O1_3 := Lib.hid (O1_2.out.below b3)
  have O2_3 := Lib.hid (O2_2.out.below b3)
  have O3_3 := Lib.hid (o3.mono B2.out.size)
  have B3 := Lib.hid (below_call B2.out b3)
  clear o3 b3 O0_2 O1_2 O2_2
  go_wp2_with fail
  refine (WK.out _).mono ?_
  rintro e y4 ⟨rfl, b4⟩
  have B4 := Lib.hid (below_call B3.out b4)
  clear b4
  go_wp2_with fail
  go_ret
  exact ⟨rfl, B4.out⟩
set_option maxHeartbeats 2000000 in
theorem apart_b0 (a b c d x y : Int) (w : World) (dx : -9223372036854775808 ≤ x ∧ x ≤ 9223372036854775807) (dy : -9223372036854775808 ≤ y ∧ y ≤ 9223372036854775807) (hab : bothB a b = true) (hcd : bothB c d = false) (hfx : fitB x 4 = false) :
    Calls Try.prog 6 #[.int .i8 a, .int .i8 b, .int .i8 c, .int .i8 d, .int .i64 x, .int .i64 y] w fun e w' => e = .returned (.bool true) ∧ Below w.heap.size w w' := by
  have M1 := fun W => mem_n a b x dx.1 dx.2 W
  have M2 := fun W => mem_n c d y dy.1 dy.2 W
  have G1 := fun W => regs_n a b W
  have G2 := fun W => regs_n c d W
  have WK := Lib.hid wakes_n
  unfold MemB memB at M1 M2
  clear dx dy
  rw [hab] at M1 G1
  rw [hcd] at M2 G2
  rw [hfx] at M1
  simp only [Bool.true_and, Bool.false_and, Bool.and_false, Bool.and_true, cond_true, cond_false] at M1 M2 G1 G2
  have K1 := Lib.hid (nil_ok)
  have K2 := Lib.hid (nil_ok)
  have K3 := Lib.hid (regL_ok a b)
  have K4 := Lib.hid (nil_ok)
  clear hab hcd hfx
  generalize memL a b x = p1 at *
  generalize memL c d y = p2 at *
  generalize regL a b = p3 at *
  generalize regL c d = p4 at *
  have M1 := Lib.hid M1
  have M2 := Lib.hid M2
  have G1 := Lib.hid G1
  have G2 := Lib.hid G2
  go_enter Try.func6, Try.ntmps6
  go_wp2_with fail
  refine (M1.out _).mono ?_
  rintro e y0 ⟨u0, rfl, o0, b0⟩
  have O0_0 := Lib.hid (o0.mono (Nat.le_refl _))
  have B0 := Lib.hid b0
  clear o0 b0
  go_wp2_with fail
  refine (M2.out _).mono ?_
  rintro e y1 ⟨u1, rfl, o1, b1⟩
  have O0_1 := Lib.hid (O0_0.out.below b1)
  have O1_1 := Lib.hid (o1.mono B0.out.size)
  have B1 := Lib.hid (below_call B0.out b1)
  clear o1 b1 O0_0
  go_wp2_with fail
  refine (G1.out _).mono ?_
  rintro e y2 ⟨u2, rfl, o2, b2⟩
  have O0_2 := Lib.hid (O0_1.out.below b2)
  have O1_2 := Lib.hid (O1_1.out.below b2)
  have O2_2 := Lib.hid (o2.mono B1.out.size)
  have B2 := Lib.hid (below_call B1.out b2)
  clear o2 b2 O0_1 O1_1
  go_wp2_with fail
  refine (G2.out _).mono ?_
  rintro e y3 ⟨u3, rfl, o3, b3⟩
  have O0_3 := Lib.hid (O0_2.out.below b3)
  have O1_3 := Lib.hid (O1_2.out.below b3)
  have O2_3 := Lib.hid (O2_2.out.below b3)
  have O3_3 := Lib.hid (o3.mono B2.out.size)
  have B3 := Lib.hid (below_call B2.out b3)
  clear o3 b3 O0_2 O1_2 O2_2
  go_wp2_with fail
  refine (WK.out _).mono ?_
  rintro e y4 ⟨rfl, b4⟩
  have B4 := Lib.hid (below_call B3.out b4)
  clear b4
  go_wp2_with fail
  go_ret
  exact ⟨rfl, B4.out⟩
set_option maxHeartbeats 2000000 in
theorem apart_c0tt (a b c d x y : Int) (w : World) (dx : -9223372036854775808 ≤ x ∧ x ≤ 9223372036854775807) (dy : -9223372036854775808 ≤ y ∧ y ≤ 9223372036854775807) (hab : bothB a b = true) (hcd : bothB c d = true) (hfx : fitB x 4 = false) (q1 : a % 8 = c % 8) (q2 : b % 8 = d % 8) :
    Calls Try.prog 6 #[.int .i8 a, .int .i8 b, .int .i8 c, .int .i8 d, .int .i64 x, .int .i64 y] w fun e w' => e = .returned (.bool true) ∧ Below w.heap.size w w' := by
  have M1 := fun W => mem_n a b x dx.1 dx.2 W
  have M2 := fun W => mem_n c d y dy.1 dy.2 W
  have G1 := fun W => regs_n a b W
  have G2 := fun W => regs_n c d W
  have WK := Lib.hid wakes_n
  unfold MemB memB at M1 M2
  clear dx dy
  rw [hab] at M1 G1
  rw [hcd] at M2 G2
  rw [hfx] at M1
  simp only [Bool.true_and, Bool.false_and, Bool.and_false, Bool.and_true, cond_true, cond_false] at M1 M2 G1 G2
  have K2 := Lib.hid (bif_oks (b := fitB y 4) (memL_ok c d y))
  generalize (bif fitB y 4 then memL c d y else []) = l2 at *
  generalize (bif fitB y 4 then (0 : Int) else 2) = e2 at *
  have K1 := Lib.hid (nil_ok)
  have K3 := Lib.hid (regL_ok a b)
  have K4 := Lib.hid (regL_ok c d)
  obtain ⟨ra, rb⟩ := bothB_iff.1 hab
  obtain ⟨rc, rd⟩ := bothB_iff.1 hcd
  have ea := and7a ra
  have eb := and7a rb
  have ec := and7a rc
  have ed := and7a rd
  clear ra rb rc rd
  rw [← regL_same q1 q2] at G2 K4
  rw [← q1] at ec
  rw [← q2] at ed
  clear q1 q2
  clear hab hcd hfx
  generalize memL a b x = p1 at *
  generalize memL c d y = p2 at *
  generalize regL a b = p3 at *
  generalize regL c d = p4 at *
  generalize a % 8 = a8 at *
  generalize b % 8 = b8 at *
  generalize c % 8 = c8 at *
  generalize d % 8 = d8 at *
  have M1 := Lib.hid M1
  have M2 := Lib.hid M2
  have G1 := Lib.hid G1
  have G2 := Lib.hid G2
  go_enter Try.func6, Try.ntmps6
  go_wp2_with fail
  refine (M1.out _).mono ?_
  rintro e y0 ⟨u0, rfl, o0, b0⟩
  have O0_0 := Lib.hid (o0.mono (Nat.le_refl _))
  have B0 := Lib.hid b0
  clear o0 b0
  go_wp2_with fail
  refine (M2.out _).mono ?_
  rintro e y1 ⟨u1, rfl, o1, b1⟩
  have O0_1 := Lib.hid (O0_0.out.below b1)
  have O1_1 := Lib.hid (o1.mono B0.out.size)
  have B1 := Lib.hid (below_call B0.out b1)
  clear o1 b1 O0_0
  go_wp2_with fail
  refine (G1.out _).mono ?_
  rintro e y2 ⟨u2, rfl, o2, b2⟩
  have O0_2 := Lib.hid (O0_1.out.below b2)
  have O1_2 := Lib.hid (O1_1.out.below b2)
  have O2_2 := Lib.hid (o2.mono B1.out.size)
  have B2 := Lib.hid (below_call B1.out b2)
  clear o2 b2 O0_1 O1_1
  go_wp2_with fail
  refine (G2.out _).mono ?_
  rintro e y3 ⟨u3, rfl, o3, b3⟩
  have O0_3 := Lib.hid (O0_2.out.below b3)
  have O1_3 := Lib.hid (O1_2.out.below b3)
  have O2_3 := Lib.hid (O2_2.out.below b3)
  have O3_3 := Lib.hid (o3.mono B2.out.size)
  have B3 := Lib.hid (below_call B2.out b3)
  clear o3 b3 O0_2 O1_2 O2_2
  have c0 := conv_own O0_3.out K1.out
  have c1 := conv_own O1_3.out K2.out
  have c2 := conv_own O2_3.out K3.out
  have c3 := conv_own O3_3.out K4.out
  go_wp2_with fail
  refine (WK.out _).mono ?_
  rintro e y4 ⟨rfl, b4⟩
  have B4 := Lib.hid (below_call B3.out b4)
  clear b4
  go_wp2_with fail
  go_ret
  exact ⟨rfl, B4.out⟩
set_option maxHeartbeats 2000000 in
theorem apart_c1tt (a b c d x y : Int) (w : World) (dx : -9223372036854775808 ≤ x ∧ x ≤ 9223372036854775807) (dy : -9223372036854775808 ≤ y ∧ y ≤ 9223372036854775807) (hab : bothB a b = true) (hcd : bothB c d = true) (hfx : fitB x 4 = true) (hfy : fitB y 4 = false) (q1 : a % 8 = c % 8) (q2 : b % 8 = d % 8) :
    Calls Try.prog 6 #[.int .i8 a, .int .i8 b, .int .i8 c, .int .i8 d, .int .i64 x, .int .i64 y] w fun e w' => e = .returned (.bool true) ∧ Below w.heap.size w w' := by
  have M1 := fun W => mem_n a b x dx.1 dx.2 W
  have M2 := fun W => mem_n c d y dy.1 dy.2 W
  have G1 := fun W => regs_n a b W
  have G2 := fun W => regs_n c d W
  have WK := Lib.hid wakes_n
  unfold MemB memB at M1 M2
  clear dx dy
  rw [hab] at M1 G1
  rw [hcd] at M2 G2
  rw [hfx] at M1
  rw [hfy] at M2
  simp only [Bool.true_and, Bool.false_and, Bool.and_false, Bool.and_true, cond_true, cond_false] at M1 M2 G1 G2
  have K1 := Lib.hid (memL_ok a b x)
  have K2 := Lib.hid (nil_ok)
  have K3 := Lib.hid (regL_ok a b)
  have K4 := Lib.hid (regL_ok c d)
  obtain ⟨ra, rb⟩ := bothB_iff.1 hab
  obtain ⟨rc, rd⟩ := bothB_iff.1 hcd
  have ea := and7a ra
  have eb := and7a rb
  have ec := and7a rc
  have ed := and7a rd
  clear ra rb rc rd
  rw [← regL_same q1 q2] at G2 K4
  rw [← q1] at ec
  rw [← q2] at ed
  clear q1 q2
  clear hab hcd hfx hfy
  generalize memL a b x = p1 at *
  generalize memL c d y = p2 at *
  generalize regL a b = p3 at *
  generalize regL c d = p4 at *
  generalize a % 8 = a8 at *
  generalize b % 8 = b8 at *
  generalize c % 8 = c8 at *
  generalize d % 8 = d8 at *
  have M1 := Lib.hid M1
  have M2 := Lib.hid M2
  have G1 := Lib.hid G1
  have G2 := Lib.hid G2
  go_enter Try.func6, Try.ntmps6
  go_wp2_with fail
  refine (M1.out _).mono ?_
  rintro e y0 ⟨u0, rfl, o0, b0⟩
  have O0_0 := Lib.hid (o0.mono (Nat.le_refl _))
  have B0 := Lib.hid b0
  clear o0 b0
  go_wp2_with fail
  refine (M2.out _).mono ?_
  rintro e y1 ⟨u1, rfl, o1, b1⟩
  have O0_1 := Lib.hid (O0_0.out.below b1)
  have O1_1 := Lib.hid (o1.mono B0.out.size)
  have B1 := Lib.hid (below_call B0.out b1)
  clear o1 b1 O0_0
  go_wp2_with fail
  refine (G1.out _).mono ?_
  rintro e y2 ⟨u2, rfl, o2, b2⟩
  have O0_2 := Lib.hid (O0_1.out.below b2)
  have O1_2 := Lib.hid (O1_1.out.below b2)
  have O2_2 := Lib.hid (o2.mono B1.out.size)
  have B2 := Lib.hid (below_call B1.out b2)
  clear o2 b2 O0_1 O1_1
  go_wp2_with fail
  refine (G2.out _).mono ?_
  rintro e y3 ⟨u3, rfl, o3, b3⟩
  have O0_3 := Lib.hid (O0_2.out.below b3)
  have O1_3 := Lib.hid (O1_2.out.below b3)
  have O2_3 := Lib.hid (O2_2.out.below b3)
  have O3_3 := Lib.hid (o3.mono B2.out.size)
  have B3 := Lib.hid (below_call B2.out b3)
  clear o3 b3 O0_2 O1_2 O2_2
  have c0 := conv_own O0_3.out K1.out
  have c1 := conv_own O1_3.out K2.out
  have c2 := conv_own O2_3.out K3.out
  have c3 := conv_own O3_3.out K4.out
  go_wp2_with fail
  refine (WK.out _).mono ?_
  rintro e y4 ⟨rfl, b4⟩
  have B4 := Lib.hid (below_call B3.out b4)
  clear b4
  go_wp2_with fail
  go_ret
  exact ⟨rfl, B4.out⟩
set_option maxHeartbeats 2000000 in
theorem apart_c2ttt (a b c d x y : Int) (w : World) (dx : -9223372036854775808 ≤ x ∧ x ≤ 9223372036854775807) (dy : -9223372036854775808 ≤ y ∧ y ≤ 9223372036854775807) (hab : bothB a b = true) (hcd : bothB c d = true) (hfx : fitB x 4 = true) (hfy : fitB y 4 = true) (q1 : a % 8 = c % 8) (q2 : b % 8 = d % 8) (q3 : x = y) :
    Calls Try.prog 6 #[.int .i8 a, .int .i8 b, .int .i8 c, .int .i8 d, .int .i64 x, .int .i64 y] w fun e w' => e = .returned (.bool true) ∧ Below w.heap.size w w' := by
  have M1 := fun W => mem_n a b x dx.1 dx.2 W
  have M2 := fun W => mem_n c d y dy.1 dy.2 W
  have G1 := fun W => regs_n a b W
  have G2 := fun W => regs_n c d W
  have WK := Lib.hid wakes_n
  unfold MemB memB at M1 M2
  clear dx dy
  rw [hab] at M1 G1
  rw [hcd] at M2 G2
  rw [hfx] at M1
  rw [hfy] at M2
  simp only [Bool.true_and, Bool.false_and, Bool.and_false, Bool.and_true, cond_true, cond_false] at M1 M2 G1 G2
  have K1 := Lib.hid (memL_ok a b x)
  have K2 := Lib.hid (memL_ok c d y)
  have K3 := Lib.hid (regL_ok a b)
  have K4 := Lib.hid (regL_ok c d)
  obtain ⟨ra, rb⟩ := bothB_iff.1 hab
  obtain ⟨rc, rd⟩ := bothB_iff.1 hcd
  have ea := and7a ra
  have eb := and7a rb
  have ec := and7a rc
  have ed := and7a rd
  clear ra rb rc rd
  rw [← regL_same q1 q2] at G2 K4
  rw [← memL_same q1 q2 q3] at M2 K2
  have s13 := str_ne (memL_ok a b x) (regL_ok a b) memL_regL
  subst q3
  rw [← q1] at ec
  rw [← q2] at ed
  clear q1 q2
  clear hab hcd hfx hfy
  generalize memL a b x = p1 at *
  generalize memL c d x = p2 at *
  generalize regL a b = p3 at *
  generalize regL c d = p4 at *
  generalize a % 8 = a8 at *
  generalize b % 8 = b8 at *
  generalize c % 8 = c8 at *
  generalize d % 8 = d8 at *
  have M1 := Lib.hid M1
  have M2 := Lib.hid M2
  have G1 := Lib.hid G1
  have G2 := Lib.hid G2
  go_enter Try.func6, Try.ntmps6
  go_wp2_with fail
  refine (M1.out _).mono ?_
  rintro e y0 ⟨u0, rfl, o0, b0⟩
  have O0_0 := Lib.hid (o0.mono (Nat.le_refl _))
  have B0 := Lib.hid b0
  clear o0 b0
  go_wp2_with fail
  refine (M2.out _).mono ?_
  rintro e y1 ⟨u1, rfl, o1, b1⟩
  have O0_1 := Lib.hid (O0_0.out.below b1)
  have O1_1 := Lib.hid (o1.mono B0.out.size)
  have B1 := Lib.hid (below_call B0.out b1)
  clear o1 b1 O0_0
  go_wp2_with fail
  refine (G1.out _).mono ?_
  rintro e y2 ⟨u2, rfl, o2, b2⟩
  have O0_2 := Lib.hid (O0_1.out.below b2)
  have O1_2 := Lib.hid (O1_1.out.below b2)
  have O2_2 := Lib.hid (o2.mono B1.out.size)
  have B2 := Lib.hid (below_call B1.out b2)
  clear o2 b2 O0_1 O1_1
  go_wp2_with fail
  refine (G2.out _).mono ?_
  rintro e y3 ⟨u3, rfl, o3, b3⟩
  have O0_3 := Lib.hid (O0_2.out.below b3)
  have O1_3 := Lib.hid (O1_2.out.below b3)
  have O2_3 := Lib.hid (O2_2.out.below b3)
  have O3_3 := Lib.hid (o3.mono B2.out.size)
  have B3 := Lib.hid (below_call B2.out b3)
  clear o3 b3 O0_2 O1_2 O2_2
  have c0 := conv_own O0_3.out K1.out
  have c1 := conv_own O1_3.out K2.out
  have c2 := conv_own O2_3.out K3.out
  have c3 := conv_own O3_3.out K4.out
  go_wp2_with fail
  refine (WK.out _).mono ?_
  rintro e y4 ⟨rfl, b4⟩
  have B4 := Lib.hid (below_call B3.out b4)
  clear b4
  go_wp2_with fail
  go_ret
  exact ⟨rfl, B4.out⟩
set_option maxHeartbeats 2000000 in
theorem apart_c2ttf (a b c d x y : Int) (w : World) (dx : -9223372036854775808 ≤ x ∧ x ≤ 9223372036854775807) (dy : -9223372036854775808 ≤ y ∧ y ≤ 9223372036854775807) (hab : bothB a b = true) (hcd : bothB c d = true) (hfx : fitB x 4 = true) (hfy : fitB y 4 = true) (q1 : a % 8 = c % 8) (q2 : b % 8 = d % 8) (q3 : ¬ x = y) :
    Calls Try.prog 6 #[.int .i8 a, .int .i8 b, .int .i8 c, .int .i8 d, .int .i64 x, .int .i64 y] w fun e w' => e = .returned (.bool true) ∧ Below w.heap.size w w' := by
  have M1 := fun W => mem_n a b x dx.1 dx.2 W
  have M2 := fun W => mem_n c d y dy.1 dy.2 W
  have G1 := fun W => regs_n a b W
  have G2 := fun W => regs_n c d W
  have WK := Lib.hid wakes_n
  unfold MemB memB at M1 M2
  clear dx dy
  rw [hab] at M1 G1
  rw [hcd] at M2 G2
  rw [hfx] at M1
  rw [hfy] at M2
  simp only [Bool.true_and, Bool.false_and, Bool.and_false, Bool.and_true, cond_true, cond_false] at M1 M2 G1 G2
  have K1 := Lib.hid (memL_ok a b x)
  have K2 := Lib.hid (memL_ok c d y)
  have K3 := Lib.hid (regL_ok a b)
  have K4 := Lib.hid (regL_ok c d)
  obtain ⟨ra, rb⟩ := bothB_iff.1 hab
  obtain ⟨rc, rd⟩ := bothB_iff.1 hcd
  have ea := and7a ra
  have eb := and7a rb
  have ec := and7a rc
  have ed := and7a rd
  clear ra rb rc rd
  rw [← regL_same q1 q2] at G2 K4
  have s12 := str_ne (memL_ok a b x) (memL_ok c d y) (memL_ne hfx hfy (fun g => q3 g.2.2))
  have s13 := str_ne (memL_ok a b x) (regL_ok a b) memL_regL
  have n3 : (x == y) = false := by simpa using q3
  clear q3
  rw [← q1] at ec
  rw [← q2] at ed
  clear q1 q2
  clear hab hcd hfx hfy
  generalize memL a b x = p1 at *
  generalize memL c d y = p2 at *
  generalize regL a b = p3 at *
  generalize regL c d = p4 at *
  generalize a % 8 = a8 at *
  generalize b % 8 = b8 at *
  generalize c % 8 = c8 at *
  generalize d % 8 = d8 at *
  have M1 := Lib.hid M1
  have M2 := Lib.hid M2
  have G1 := Lib.hid G1
  have G2 := Lib.hid G2
  go_enter Try.func6, Try.ntmps6
  go_wp2_with fail
  refine (M1.out _).mono ?_
  rintro e y0 ⟨u0, rfl, o0, b0⟩
  have O0_0 := Lib.hid (o0.mono (Nat.le_refl _))
  have B0 := Lib.hid b0
  clear o0 b0
  go_wp2_with fail
  refine (M2.out _).mono ?_
  rintro e y1 ⟨u1, rfl, o1, b1⟩
  have O0_1 := Lib.hid (O0_0.out.below b1)
  have O1_1 := Lib.hid (o1.mono B0.out.size)
  have B1 := Lib.hid (below_call B0.out b1)
  clear o1 b1 O0_0
  go_wp2_with fail
  refine (G1.out _).mono ?_
  rintro e y2 ⟨u2, rfl, o2, b2⟩
  have O0_2 := Lib.hid (O0_1.out.below b2)
  have O1_2 := Lib.hid (O1_1.out.below b2)
  have O2_2 := Lib.hid (o2.mono B1.out.size)
  have B2 := Lib.hid (below_call B1.out b2)
  clear o2 b2 O0_1 O1_1
  go_wp2_with fail
  refine (G2.out _).mono ?_
  rintro e y3 ⟨u3, rfl, o3, b3⟩
  have O0_3 := Lib.hid (O0_2.out.below b3)
  have O1_3 := Lib.hid (O1_2.out.below b3)
  have O2_3 := Lib.hid (O2_2.out.below b3)
  have O3_3 := Lib.hid (o3.mono B2.out.size)
  have B3 := Lib.hid (below_call B2.out b3)
  clear o3 b3 O0_2 O1_2 O2_2
  have c0 := conv_own O0_3.out K1.out
  have c1 := conv_own O1_3.out K2.out
  have c2 := conv_own O2_3.out K3.out
  have c3 := conv_own O3_3.out K4.out
  go_wp2_with fail
  refine (WK.out _).mono ?_
  rintro e y4 ⟨rfl, b4⟩
  have B4 := Lib.hid (below_call B3.out b4)
  clear b4
  go_wp2_with fail
  go_ret
  exact ⟨rfl, B4.out⟩
set_option maxHeartbeats 2000000 in
theorem apart_c0tf (a b c d x y : Int) (w : World) (dx : -9223372036854775808 ≤ x ∧ x ≤ 9223372036854775807) (dy : -9223372036854775808 ≤ y ∧ y ≤ 9223372036854775807) (hab : bothB a b = true) (hcd : bothB c d = true) (hfx : fitB x 4 = false) (q1 : a % 8 = c % 8) (q2 : ¬ b % 8 = d % 8) :
    Calls Try.prog 6 #[.int .i8 a, .int .i8 b, .int .i8 c, .int .i8 d, .int .i64 x, .int .i64 y] w fun e w' => e = .returned (.bool true) ∧ Below w.heap.size w w' := by
  have M1 := fun W => mem_n a b x dx.1 dx.2 W
  have M2 := fun W => mem_n c d y dy.1 dy.2 W
  have G1 := fun W => regs_n a b W
  have G2 := fun W => regs_n c d W
  have WK := Lib.hid wakes_n
  unfold MemB memB at M1 M2
  clear dx dy
  rw [hab] at M1 G1
  rw [hcd] at M2 G2
  rw [hfx] at M1
  simp only [Bool.true_and, Bool.false_and, Bool.and_false, Bool.and_true, cond_true, cond_false] at M1 M2 G1 G2
  have K2 := Lib.hid (bif_oks (b := fitB y 4) (memL_ok c d y))
  generalize (bif fitB y 4 then memL c d y else []) = l2 at *
  generalize (bif fitB y 4 then (0 : Int) else 2) = e2 at *
  have K1 := Lib.hid (nil_ok)
  have K3 := Lib.hid (regL_ok a b)
  have K4 := Lib.hid (regL_ok c d)
  obtain ⟨ra, rb⟩ := bothB_iff.1 hab
  obtain ⟨rc, rd⟩ := bothB_iff.1 hcd
  have ea := and7a ra
  have eb := and7a rb
  have ec := and7a rc
  have ed := and7a rd
  clear ra rb rc rd
  have s34 := str_ne (regL_ok a b) (regL_ok c d) (regL_ne (fun g => q2 g.2))
  rw [← q1] at ec
  have n2 : (b % 8 == d % 8) = false := by simpa using q2
  clear q1 q2
  clear hab hcd hfx
  generalize memL a b x = p1 at *
  generalize memL c d y = p2 at *
  generalize regL a b = p3 at *
  generalize regL c d = p4 at *
  generalize a % 8 = a8 at *
  generalize b % 8 = b8 at *
  generalize c % 8 = c8 at *
  generalize d % 8 = d8 at *
  have M1 := Lib.hid M1
  have M2 := Lib.hid M2
  have G1 := Lib.hid G1
  have G2 := Lib.hid G2
  go_enter Try.func6, Try.ntmps6
  go_wp2_with fail
  refine (M1.out _).mono ?_
  rintro e y0 ⟨u0, rfl, o0, b0⟩
  have O0_0 := Lib.hid (o0.mono (Nat.le_refl _))
  have B0 := Lib.hid b0
  clear o0 b0
  go_wp2_with fail
  refine (M2.out _).mono ?_
  rintro e y1 ⟨u1, rfl, o1, b1⟩
  have O0_1 := Lib.hid (O0_0.out.below b1)
  have O1_1 := Lib.hid (o1.mono B0.out.size)
  have B1 := Lib.hid (below_call B0.out b1)
  clear o1 b1 O0_0
  go_wp2_with fail
  refine (G1.out _).mono ?_
  rintro e y2 ⟨u2, rfl, o2, b2⟩
  have O0_2 := Lib.hid (O0_1.out.below b2)
  have O1_2 := Lib.hid (O1_1.out.below b2)
  have O2_2 := Lib.hid (o2.mono B1.out.size)
  have B2 := Lib.hid (below_call B1.out b2)
  clear o2 b2 O0_1 O1_1
  go_wp2_with fail
  refine (G2.out _).mono ?_
  rintro e y3 ⟨u3, rfl, o3, b3⟩
  have O0_3 := Lib.hid (O0_2.out.below b3)
  have O1_3 := Lib.hid (O1_2.out.below b3)
  have O2_3 := Lib.hid (O2_2.out.below b3)
  have O3_3 := Lib.hid (o3.mono B2.out.size)
  have B3 := Lib.hid (below_call B2.out b3)
  clear o3 b3 O0_2 O1_2 O2_2
  have c0 := conv_own O0_3.out K1.out
  have c1 := conv_own O1_3.out K2.out
  have c2 := conv_own O2_3.out K3.out
  have c3 := conv_own O3_3.out K4.out
  go_wp2_with fail
  refine (WK.out _).mono ?_
  rintro e y4 ⟨rfl, b4⟩
  have B4 := Lib.hid (below_call B3.out b4)
  clear b4
  go_wp2_with fail
  go_ret
  exact ⟨rfl, B4.out⟩
set_option maxHeartbeats 2000000 in
theorem apart_c1tf (a b c d x y : Int) (w : World) (dx : -9223372036854775808 ≤ x ∧ x ≤ 9223372036854775807) (dy : -9223372036854775808 ≤ y ∧ y ≤ 9223372036854775807) (hab : bothB a b = true) (hcd : bothB c d = true) (hfx : fitB x 4 = true) (hfy : fitB y 4 = false) (q1 : a % 8 = c % 8) (q2 : ¬ b % 8 = d % 8) :
    Calls Try.prog 6 #[.int .i8 a, .int .i8 b, .int .i8 c, .int .i8 d, .int .i64 x, .int .i64 y] w fun e w' => e = .returned (.bool true) ∧ Below w.heap.size w w' := by
  have M1 := fun W => mem_n a b x dx.1 dx.2 W
  have M2 := fun W => mem_n c d y dy.1 dy.2 W
  have G1 := fun W => regs_n a b W
  have G2 := fun W => regs_n c d W
  have WK := Lib.hid wakes_n
  unfold MemB memB at M1 M2
  clear dx dy
  rw [hab] at M1 G1
  rw [hcd] at M2 G2
  rw [hfx] at M1
  rw [hfy] at M2
  simp only [Bool.true_and, Bool.false_and, Bool.and_false, Bool.and_true, cond_true, cond_false] at M1 M2 G1 G2
  have K1 := Lib.hid (memL_ok a b x)
  have K2 := Lib.hid (nil_ok)
  have K3 := Lib.hid (regL_ok a b)
  have K4 := Lib.hid (regL_ok c d)
  obtain ⟨ra, rb⟩ := bothB_iff.1 hab
  obtain ⟨rc, rd⟩ := bothB_iff.1 hcd
  have ea := and7a ra
  have eb := and7a rb
  have ec := and7a rc
  have ed := and7a rd
  clear ra rb rc rd
  have s34 := str_ne (regL_ok a b) (regL_ok c d) (regL_ne (fun g => q2 g.2))
  rw [← q1] at ec
  have n2 : (b % 8 == d % 8) = false := by simpa using q2
  clear q1 q2
  clear hab hcd hfx hfy
  generalize memL a b x = p1 at *
  generalize memL c d y = p2 at *
  generalize regL a b = p3 at *
  generalize regL c d = p4 at *
  generalize a % 8 = a8 at *
  generalize b % 8 = b8 at *
  generalize c % 8 = c8 at *
  generalize d % 8 = d8 at *
  have M1 := Lib.hid M1
  have M2 := Lib.hid M2
  have G1 := Lib.hid G1
  have G2 := Lib.hid G2
  go_enter Try.func6, Try.ntmps6
  go_wp2_with fail
  refine (M1.out _).mono ?_
  rintro e y0 ⟨u0, rfl, o0, b0⟩
  have O0_0 := Lib.hid (o0.mono (Nat.le_refl _))
  have B0 := Lib.hid b0
  clear o0 b0
  go_wp2_with fail
  refine (M2.out _).mono ?_
  rintro e y1 ⟨u1, rfl, o1, b1⟩
  have O0_1 := Lib.hid (O0_0.out.below b1)
  have O1_1 := Lib.hid (o1.mono B0.out.size)
  have B1 := Lib.hid (below_call B0.out b1)
  clear o1 b1 O0_0
  go_wp2_with fail
  refine (G1.out _).mono ?_
  rintro e y2 ⟨u2, rfl, o2, b2⟩
  have O0_2 := Lib.hid (O0_1.out.below b2)
  have O1_2 := Lib.hid (O1_1.out.below b2)
  have O2_2 := Lib.hid (o2.mono B1.out.size)
  have B2 := Lib.hid (below_call B1.out b2)
  clear o2 b2 O0_1 O1_1
  go_wp2_with fail
  refine (G2.out _).mono ?_
  rintro e y3 ⟨u3, rfl, o3, b3⟩
  have O0_3 := Lib.hid (O0_2.out.below b3)
  have O1_3 := Lib.hid (O1_2.out.below b3)
  have O2_3 := Lib.hid (O2_2.out.below b3)
  have O3_3 := Lib.hid (o3.mono B2.out.size)
  have B3 := Lib.hid (below_call B2.out b3)
  clear o3 b3 O0_2 O1_2 O2_2
  have c0 := conv_own O0_3.out K1.out
  have c1 := conv_own O1_3.out K2.out
  have c2 := conv_own O2_3.out K3.out
  have c3 := conv_own O3_3.out K4.out
  go_wp2_with fail
  refine (WK.out _).mono ?_
  rintro e y4 ⟨rfl, b4⟩
  have B4 := Lib.hid (below_call B3.out b4)
  clear b4
  go_wp2_with fail
  go_ret
  exact ⟨rfl, B4.out⟩
set_option maxHeartbeats 2000000 in
theorem apart_c2tf (a b c d x y : Int) (w : World) (dx : -9223372036854775808 ≤ x ∧ x ≤ 9223372036854775807) (dy : -9223372036854775808 ≤ y ∧ y ≤ 9223372036854775807) (hab : bothB a b = true) (hcd : bothB c d = true) (hfx : fitB x 4 = true) (hfy : fitB y 4 = true) (q1 : a % 8 = c % 8) (q2 : ¬ b % 8 = d % 8) :
    Calls Try.prog 6 #[.int .i8 a, .int .i8 b, .int .i8 c, .int .i8 d, .int .i64 x, .int .i64 y] w fun e w' => e = .returned (.bool true) ∧ Below w.heap.size w w' := by
  have M1 := fun W => mem_n a b x dx.1 dx.2 W
  have M2 := fun W => mem_n c d y dy.1 dy.2 W
  have G1 := fun W => regs_n a b W
  have G2 := fun W => regs_n c d W
  have WK := Lib.hid wakes_n
  unfold MemB memB at M1 M2
  clear dx dy
  rw [hab] at M1 G1
  rw [hcd] at M2 G2
  rw [hfx] at M1
  rw [hfy] at M2
  simp only [Bool.true_and, Bool.false_and, Bool.and_false, Bool.and_true, cond_true, cond_false] at M1 M2 G1 G2
  have K1 := Lib.hid (memL_ok a b x)
  have K2 := Lib.hid (memL_ok c d y)
  have K3 := Lib.hid (regL_ok a b)
  have K4 := Lib.hid (regL_ok c d)
  obtain ⟨ra, rb⟩ := bothB_iff.1 hab
  obtain ⟨rc, rd⟩ := bothB_iff.1 hcd
  have ea := and7a ra
  have eb := and7a rb
  have ec := and7a rc
  have ed := and7a rd
  clear ra rb rc rd
  have s34 := str_ne (regL_ok a b) (regL_ok c d) (regL_ne (fun g => q2 g.2))
  have s12 := str_ne (memL_ok a b x) (memL_ok c d y) (memL_ne hfx hfy (fun g => q2 g.2.1))
  have s13 := str_ne (memL_ok a b x) (regL_ok a b) memL_regL
  rw [← q1] at ec
  have n2 : (b % 8 == d % 8) = false := by simpa using q2
  clear q1 q2
  clear hab hcd hfx hfy
  generalize memL a b x = p1 at *
  generalize memL c d y = p2 at *
  generalize regL a b = p3 at *
  generalize regL c d = p4 at *
  generalize a % 8 = a8 at *
  generalize b % 8 = b8 at *
  generalize c % 8 = c8 at *
  generalize d % 8 = d8 at *
  have M1 := Lib.hid M1
  have M2 := Lib.hid M2
  have G1 := Lib.hid G1
  have G2 := Lib.hid G2
  go_enter Try.func6, Try.ntmps6
  go_wp2_with fail
  refine (M1.out _).mono ?_
  rintro e y0 ⟨u0, rfl, o0, b0⟩
  have O0_0 := Lib.hid (o0.mono (Nat.le_refl _))
  have B0 := Lib.hid b0
  clear o0 b0
  go_wp2_with fail
  refine (M2.out _).mono ?_
  rintro e y1 ⟨u1, rfl, o1, b1⟩
  have O0_1 := Lib.hid (O0_0.out.below b1)
  have O1_1 := Lib.hid (o1.mono B0.out.size)
  have B1 := Lib.hid (below_call B0.out b1)
  clear o1 b1 O0_0
  go_wp2_with fail
  refine (G1.out _).mono ?_
  rintro e y2 ⟨u2, rfl, o2, b2⟩
  have O0_2 := Lib.hid (O0_1.out.below b2)
  have O1_2 := Lib.hid (O1_1.out.below b2)
  have O2_2 := Lib.hid (o2.mono B1.out.size)
  have B2 := Lib.hid (below_call B1.out b2)
  clear o2 b2 O0_1 O1_1
  go_wp2_with fail
  refine (G2.out _).mono ?_
  rintro e y3 ⟨u3, rfl, o3, b3⟩
  have O0_3 := Lib.hid (O0_2.out.below b3)
  have O1_3 := Lib.hid (O1_2.out.below b3)
  have O2_3 := Lib.hid (O2_2.out.below b3)
  have O3_3 := Lib.hid (o3.mono B2.out.size)
  have B3 := Lib.hid (below_call B2.out b3)
  clear o3 b3 O0_2 O1_2 O2_2
  have c0 := conv_own O0_3.out K1.out
  have c1 := conv_own O1_3.out K2.out
  have c2 := conv_own O2_3.out K3.out
  have c3 := conv_own O3_3.out K4.out
  go_wp2_with fail
  refine (WK.out _).mono ?_
  rintro e y4 ⟨rfl, b4⟩
  have B4 := Lib.hid (below_call B3.out b4)
  clear b4
  go_wp2_with fail
  go_ret
  exact ⟨rfl, B4.out⟩
set_option maxHeartbeats 2000000 in
theorem apart_c0f (a b c d x y : Int) (w : World) (dx : -9223372036854775808 ≤ x ∧ x ≤ 9223372036854775807) (dy : -9223372036854775808 ≤ y ∧ y ≤ 9223372036854775807) (hab : bothB a b = true) (hcd : bothB c d = true) (hfx : fitB x 4 = false) (q1 : ¬ a % 8 = c % 8) :
    Calls Try.prog 6 #[.int .i8 a, .int .i8 b, .int .i8 c, .int .i8 d, .int .i64 x, .int .i64 y] w fun e w' => e = .returned (.bool true) ∧ Below w.heap.size w w' := by
  have M1 := fun W => mem_n a b x dx.1 dx.2 W
  have M2 := fun W => mem_n c d y dy.1 dy.2 W
  have G1 := fun W => regs_n a b W
  have G2 := fun W => regs_n c d W
  have WK := Lib.hid wakes_n
  unfold MemB memB at M1 M2
  clear dx dy
  rw [hab] at M1 G1
  rw [hcd] at M2 G2
  rw [hfx] at M1
  simp only [Bool.true_and, Bool.false_and, Bool.and_false, Bool.and_true, cond_true, cond_false] at M1 M2 G1 G2
  have K2 := Lib.hid (bif_oks (b := fitB y 4) (memL_ok c d y))
  generalize (bif fitB y 4 then memL c d y else []) = l2 at *
  generalize (bif fitB y 4 then (0 : Int) else 2) = e2 at *
  have K1 := Lib.hid (nil_ok)
  have K3 := Lib.hid (regL_ok a b)
  have K4 := Lib.hid (regL_ok c d)
  obtain ⟨ra, rb⟩ := bothB_iff.1 hab
  obtain ⟨rc, rd⟩ := bothB_iff.1 hcd
  have ea := and7a ra
  have eb := and7a rb
  have ec := and7a rc
  have ed := and7a rd
  clear ra rb rc rd
  have s34 := str_ne (regL_ok a b) (regL_ok c d) (regL_ne (fun g => q1 g.1))
  have n1 : (a % 8 == c % 8) = false := by simpa using q1
  clear q1
  clear hab hcd hfx
  generalize memL a b x = p1 at *
  generalize memL c d y = p2 at *
  generalize regL a b = p3 at *
  generalize regL c d = p4 at *
  generalize a % 8 = a8 at *
  generalize b % 8 = b8 at *
  generalize c % 8 = c8 at *
  generalize d % 8 = d8 at *
  have M1 := Lib.hid M1
  have M2 := Lib.hid M2
  have G1 := Lib.hid G1
  have G2 := Lib.hid G2
  go_enter Try.func6, Try.ntmps6
  go_wp2_with fail
  refine (M1.out _).mono ?_
  rintro e y0 ⟨u0, rfl, o0, b0⟩
  have O0_0 := Lib.hid (o0.mono (Nat.le_refl _))
  have B0 := Lib.hid b0
  clear o0 b0
  go_wp2_with fail
  refine (M2.out _).mono ?_
  rintro e y1 ⟨u1, rfl, o1, b1⟩
  have O0_1 := Lib.hid (O0_0.out.below b1)
  have O1_1 := Lib.hid (o1.mono B0.out.size)
  have B1 := Lib.hid (below_call B0.out b1)
  clear o1 b1 O0_0
  go_wp2_with fail
  refine (G1.out _).mono ?_
  rintro e y2 ⟨u2, rfl, o2, b2⟩
  have O0_2 := Lib.hid (O0_1.out.below b2)
  have O1_2 := Lib.hid (O1_1.out.below b2)
  have O2_2 := Lib.hid (o2.mono B1.out.size)
  have B2 := Lib.hid (below_call B1.out b2)
  clear o2 b2 O0_1 O1_1
  go_wp2_with fail
  refine (G2.out _).mono ?_
  rintro e y3 ⟨u3, rfl, o3, b3⟩
  have O0_3 := Lib.hid (O0_2.out.below b3)
  have O1_3 := Lib.hid (O1_2.out.below b3)
  have O2_3 := Lib.hid (O2_2.out.below b3)
  have O3_3 := Lib.hid (o3.mono B2.out.size)
  have B3 := Lib.hid (below_call B2.out b3)
  clear o3 b3 O0_2 O1_2 O2_2
  have c0 := conv_own O0_3.out K1.out
  have c1 := conv_own O1_3.out K2.out
  have c2 := conv_own O2_3.out K3.out
  have c3 := conv_own O3_3.out K4.out
  go_wp2_with fail
  refine (WK.out _).mono ?_
  rintro e y4 ⟨rfl, b4⟩
  have B4 := Lib.hid (below_call B3.out b4)
  clear b4
  go_wp2_with fail
  go_ret
  exact ⟨rfl, B4.out⟩
set_option maxHeartbeats 2000000 in
theorem apart_c1f (a b c d x y : Int) (w : World) (dx : -9223372036854775808 ≤ x ∧ x ≤ 9223372036854775807) (dy : -9223372036854775808 ≤ y ∧ y ≤ 9223372036854775807) (hab : bothB a b = true) (hcd : bothB c d = true) (hfx : fitB x 4 = true) (hfy : fitB y 4 = false) (q1 : ¬ a % 8 = c % 8) :
    Calls Try.prog 6 #[.int .i8 a, .int .i8 b, .int .i8 c, .int .i8 d, .int .i64 x, .int .i64 y] w fun e w' => e = .returned (.bool true) ∧ Below w.heap.size w w' := by
  have M1 := fun W => mem_n a b x dx.1 dx.2 W
  have M2 := fun W => mem_n c d y dy.1 dy.2 W
  have G1 := fun W => regs_n a b W
  have G2 := fun W => regs_n c d W
  have WK := Lib.hid wakes_n
  unfold MemB memB at M1 M2
  clear dx dy
  rw [hab] at M1 G1
  rw [hcd] at M2 G2
  rw [hfx] at M1
  rw [hfy] at M2
  simp only [Bool.true_and, Bool.false_and, Bool.and_false, Bool.and_true, cond_true, cond_false] at M1 M2 G1 G2
  have K1 := Lib.hid (memL_ok a b x)
  have K2 := Lib.hid (nil_ok)
  have K3 := Lib.hid (regL_ok a b)
  have K4 := Lib.hid (regL_ok c d)
  obtain ⟨ra, rb⟩ := bothB_iff.1 hab
  obtain ⟨rc, rd⟩ := bothB_iff.1 hcd
  have ea := and7a ra
  have eb := and7a rb
  have ec := and7a rc
  have ed := and7a rd
  clear ra rb rc rd
  have s34 := str_ne (regL_ok a b) (regL_ok c d) (regL_ne (fun g => q1 g.1))
  have n1 : (a % 8 == c % 8) = false := by simpa using q1
  clear q1
  clear hab hcd hfx hfy
  generalize memL a b x = p1 at *
  generalize memL c d y = p2 at *
  generalize regL a b = p3 at *
  generalize regL c d = p4 at *
  generalize a % 8 = a8 at *
  generalize b % 8 = b8 at *
  generalize c % 8 = c8 at *
  generalize d % 8 = d8 at *
  have M1 := Lib.hid M1
  have M2 := Lib.hid M2
  have G1 := Lib.hid G1
  have G2 := Lib.hid G2
  go_enter Try.func6, Try.ntmps6
  go_wp2_with fail
  refine (M1.out _).mono ?_
  rintro e y0 ⟨u0, rfl, o0, b0⟩
  have O0_0 := Lib.hid (o0.mono (Nat.le_refl _))
  have B0 := Lib.hid b0
  clear o0 b0
  go_wp2_with fail
  refine (M2.out _).mono ?_
  rintro e y1 ⟨u1, rfl, o1, b1⟩
  have O0_1 := Lib.hid (O0_0.out.below b1)
  have O1_1 := Lib.hid (o1.mono B0.out.size)
  have B1 := Lib.hid (below_call B0.out b1)
  clear o1 b1 O0_0
  go_wp2_with fail
  refine (G1.out _).mono ?_
  rintro e y2 ⟨u2, rfl, o2, b2⟩
  have O0_2 := Lib.hid (O0_1.out.below b2)
  have O1_2 := Lib.hid (O1_1.out.below b2)
  have O2_2 := Lib.hid (o2.mono B1.out.size)
  have B2 := Lib.hid (below_call B1.out b2)
  clear o2 b2 O0_1 O1_1
  go_wp2_with fail
  refine (G2.out _).mono ?_
  rintro e y3 ⟨u3, rfl, o3, b3⟩
  have O0_3 := Lib.hid (O0_2.out.below b3)
  have O1_3 := Lib.hid (O1_2.out.below b3)
  have O2_3 := Lib.hid (O2_2.out.below b3)
  have O3_3 := Lib.hid (o3.mono B2.out.size)
  have B3 := Lib.hid (below_call B2.out b3)
  clear o3 b3 O0_2 O1_2 O2_2
  have c0 := conv_own O0_3.out K1.out
  have c1 := conv_own O1_3.out K2.out
  have c2 := conv_own O2_3.out K3.out
  have c3 := conv_own O3_3.out K4.out
  go_wp2_with fail
  refine (WK.out _).mono ?_
  rintro e y4 ⟨rfl, b4⟩
  have B4 := Lib.hid (below_call B3.out b4)
  clear b4
  go_wp2_with fail
  go_ret
  exact ⟨rfl, B4.out⟩
set_option maxHeartbeats 2000000 in
theorem apart_c2f (a b c d x y : Int) (w : World) (dx : -9223372036854775808 ≤ x ∧ x ≤ 9223372036854775807) (dy : -9223372036854775808 ≤ y ∧ y ≤ 9223372036854775807) (hab : bothB a b = true) (hcd : bothB c d = true) (hfx : fitB x 4 = true) (hfy : fitB y 4 = true) (q1 : ¬ a % 8 = c % 8) :
    Calls Try.prog 6 #[.int .i8 a, .int .i8 b, .int .i8 c, .int .i8 d, .int .i64 x, .int .i64 y] w fun e w' => e = .returned (.bool true) ∧ Below w.heap.size w w' := by
  have M1 := fun W => mem_n a b x dx.1 dx.2 W
  have M2 := fun W => mem_n c d y dy.1 dy.2 W
  have G1 := fun W => regs_n a b W
  have G2 := fun W => regs_n c d W
  have WK := Lib.hid wakes_n
  unfold MemB memB at M1 M2
  clear dx dy
  rw [hab] at M1 G1
  rw [hcd] at M2 G2
  rw [hfx] at M1
  rw [hfy] at M2
  simp only [Bool.true_and, Bool.false_and, Bool.and_false, Bool.and_true, cond_true, cond_false] at M1 M2 G1 G2
  have K1 := Lib.hid (memL_ok a b x)
  have K2 := Lib.hid (memL_ok c d y)
  have K3 := Lib.hid (regL_ok a b)
  have K4 := Lib.hid (regL_ok c d)
  obtain ⟨ra, rb⟩ := bothB_iff.1 hab
  obtain ⟨rc, rd⟩ := bothB_iff.1 hcd
  have ea := and7a ra
  have eb := and7a rb
  have ec := and7a rc
  have ed := and7a rd
  clear ra rb rc rd
  have s34 := str_ne (regL_ok a b) (regL_ok c d) (regL_ne (fun g => q1 g.1))
  have s12 := str_ne (memL_ok a b x) (memL_ok c d y) (memL_ne hfx hfy (fun g => q1 g.1))
  have s13 := str_ne (memL_ok a b x) (regL_ok a b) memL_regL
  have n1 : (a % 8 == c % 8) = false := by simpa using q1
  clear q1
  clear hab hcd hfx hfy
  generalize memL a b x = p1 at *
  generalize memL c d y = p2 at *
  generalize regL a b = p3 at *
  generalize regL c d = p4 at *
  generalize a % 8 = a8 at *
  generalize b % 8 = b8 at *
  generalize c % 8 = c8 at *
  generalize d % 8 = d8 at *
  have M1 := Lib.hid M1
  have M2 := Lib.hid M2
  have G1 := Lib.hid G1
  have G2 := Lib.hid G2
  go_enter Try.func6, Try.ntmps6
  go_wp2_with fail
  refine (M1.out _).mono ?_
  rintro e y0 ⟨u0, rfl, o0, b0⟩
  have O0_0 := Lib.hid (o0.mono (Nat.le_refl _))
  have B0 := Lib.hid b0
  clear o0 b0
  go_wp2_with fail
  refine (M2.out _).mono ?_
  rintro e y1 ⟨u1, rfl, o1, b1⟩
  have O0_1 := Lib.hid (O0_0.out.below b1)
  have O1_1 := Lib.hid (o1.mono B0.out.size)
  have B1 := Lib.hid (below_call B0.out b1)
  clear o1 b1 O0_0
  go_wp2_with fail
  refine (G1.out _).mono ?_
  rintro e y2 ⟨u2, rfl, o2, b2⟩
  have O0_2 := Lib.hid (O0_1.out.below b2)
  have O1_2 := Lib.hid (O1_1.out.below b2)
  have O2_2 := Lib.hid (o2.mono B1.out.size)
  have B2 := Lib.hid (below_call B1.out b2)
  clear o2 b2 O0_1 O1_1
  go_wp2_with fail
  refine (G2.out _).mono ?_
  rintro e y3 ⟨u3, rfl, o3, b3⟩
  have O0_3 := Lib.hid (O0_2.out.below b3)
  have O1_3 := Lib.hid (O1_2.out.below b3)
  have O2_3 := Lib.hid (O2_2.out.below b3)
  have O3_3 := Lib.hid (o3.mono B2.out.size)
  have B3 := Lib.hid (below_call B2.out b3)
  clear o3 b3 O0_2 O1_2 O2_2
  have c0 := conv_own O0_3.out K1.out
  have c1 := conv_own O1_3.out K2.out
  have c2 := conv_own O2_3.out K3.out
  have c3 := conv_own O3_3.out K4.out
  go_wp2_with fail
  refine (WK.out _).mono ?_
  rintro e y4 ⟨rfl, b4⟩
  have B4 := Lib.hid (below_call B3.out b4)
  clear b4
  go_wp2_with fail
  go_ret
  exact ⟨rfl, B4.out⟩
theorem apart_law (a b c d x y : Int) (w : World) (w0 : (Lit.int .i8 a).wf = true) (w1 : (Lit.int .i8 b).wf = true) (w2 : (Lit.int .i8 c).wf = true) (w3 : (Lit.int .i8 d).wf = true) (w4 : (Lit.int .i64 x).wf = true) (w5 : (Lit.int .i64 y).wf = true) :
    Calls Try.prog 6 #[.int .i8 a, .int .i8 b, .int .i8 c, .int .i8 d, .int .i64 x, .int .i64 y] w fun e w' => e = .returned (.bool true) ∧ Below w.heap.size w w' := by
  have dx := bd_i64a w4
  have dy := bd_i64a w5
  cases hab : bothB a b
  · exact apart_a a b c d x y w dx dy hab
  cases hcd : bothB c d
  · cases hfx : fitB x 4
    · exact apart_b0 a b c d x y w dx dy hab hcd hfx
    · exact apart_b1 a b c d x y w dx dy hab hcd hfx
  by_cases q1 : a % 8 = c % 8
  · by_cases q2 : b % 8 = d % 8
    · skip
      cases hfx : fitB x 4
      · exact apart_c0tt a b c d x y w dx dy hab hcd hfx q1 q2
      cases hfy : fitB y 4
      · exact apart_c1tt a b c d x y w dx dy hab hcd hfx hfy q1 q2
      by_cases q3 : x = y
      · exact apart_c2ttt a b c d x y w dx dy hab hcd hfx hfy q1 q2 q3
      · exact apart_c2ttf a b c d x y w dx dy hab hcd hfx hfy q1 q2 q3
    · skip
      cases hfx : fitB x 4
      · exact apart_c0tf a b c d x y w dx dy hab hcd hfx q1 q2
      cases hfy : fitB y 4
      · exact apart_c1tf a b c d x y w dx dy hab hcd hfx hfy q1 q2
      exact apart_c2tf a b c d x y w dx dy hab hcd hfx hfy q1 q2
  · skip
    cases hfx : fitB x 4
    · exact apart_c0f a b c d x y w dx dy hab hcd hfx q1
    cases hfy : fitB y 4
    · exact apart_c1f a b c d x y w dx dy hab hcd hfx hfy q1
    exact apart_c2f a b c d x y w dx dy hab hcd hfx hfy q1
end Go.Proofs.Ytnechhoknaepiaa.Mrm
