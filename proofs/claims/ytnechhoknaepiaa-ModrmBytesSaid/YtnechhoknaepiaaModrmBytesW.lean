/-
  The walk of the law ModrmBytes. (Written by gen_mrw.py.)
-/
import Derived.Test.YtnechhoknaepiaaMrW
namespace Go.Proofs.Ytnechhoknaepiaa.Mrm
open Go.RowKit
set_option linter.unusedVariables false
set_option linter.unnecessarySimpa false
set_option linter.unusedSimpArgs false
set_option maxRecDepth 100000

theorem bd_i64 {a : Int} (h : (Lit.int .i64 a).wf = true) : -9223372036854775808 ≤ a ∧ a ≤ 9223372036854775807 := by
  simpa [Lit.wf, IntKind.min, IntKind.max, IntKind.bits, IntKind.signed] using h
theorem RetB.weak {l : List Int} {c : Int} {W W0 : World} {e : Ending} {w' : World} (h : RetB l c W e w') (hb : W0.heap.size ≤ W.heap.size) : ∃ v, e = .returned (.tuple #[v, .int .i64 c]) ∧ Bts W0.heap.size w' v l ∧ Below W.heap.size W w' := by
  obtain ⟨v, h1, h2, h3⟩ := h
  exact ⟨v, h1, h2.mono hb, h3⟩
theorem bif_ok {b : Bool} {l : List Int} (h : Oks l) : Oks (bif b then l else []) := by
  cases b
  · intro z hz; cases hz
  · exact h
set_option maxHeartbeats 4000000 in
theorem bytes_law (a0 : Bool) (a1 a2 a3 a4 a5 : Int) (w : World) (w1 : (Lit.int .i8 a1).wf = true) (w2 : (Lit.int .i8 a2).wf = true) (w3 : (Lit.int .i64 a3).wf = true) (w4 : (Lit.int .i64 a4).wf = true) (w5 : (Lit.int .i64 a5).wf = true) :
    Calls Try.prog 3 #[.bool a0, .int .i8 a1, .int .i8 a2, .int .i64 a3, .int .i64 a4, .int .i64 a5] w fun e w' => e = .returned (.bool true) ∧ Below w.heap.size w w' := by
  obtain ⟨d0, d1⟩ := bd_i64 w3
  obtain ⟨v0, v1⟩ := bd_i64 w4
  have RX := Lib.hid (fun W => rex_n a0 a1 a2 W)
  have QX := Lib.hid (fun W => qrex_n a0 a1 a2 W)
  have RR := Lib.hid (fun W => regs_n a1 a2 W)
  have QR := Lib.hid (fun W => qregs_n a1 a2 W)
  have RM := Lib.hid (fun W => mem_n a1 a2 a3 d0 d1 W)
  have QM := Lib.hid (fun W => qmem_n a1 a2 a3 d0 d1 W)
  have RN := Lib.hid (fun W => num_n a4 a5 v0 v1 W)
  have QN := Lib.hid (fun W => qnum_n a4 a5 v0 v1 W)
  have RD := Lib.hid (fun W => needs_n a1 a2 W)
  have QD := Lib.hid (fun W => qneeds_n a1 a2 W)
  have K1 := Lib.hid (bif_ok (b := bothB a1 a2) (regL_ok a1 a2))
  have K2 := Lib.hid (bif_ok (b := memB a1 a2 a3) (memL_ok a1 a2 a3))
  have K3 := Lib.hid (bif_ok (b := numB a4 a5) (numL_ok a4 a5.toNat))
  unfold MemB at RM QM
  clear d0 d1 v0 v1 w1 w2 w3 w4 w5
  generalize (bif bothB a1 a2 then rexI a0 a1 a2 else 0) = x1 at *
  generalize (bif bothB a1 a2 then (0 : Int) else 2) = x2 at *
  generalize (bif bothB a1 a2 then regL a1 a2 else []) = l1 at *
  generalize (bif memB a1 a2 a3 then memL a1 a2 a3 else []) = l2 at *
  generalize (bif memB a1 a2 a3 then (0 : Int) else 2) = x3 at *
  generalize (bif numB a4 a5 then numL a4 a5.toNat else []) = l3 at *
  generalize (bif numB a4 a5 then (0 : Int) else 2) = x4 at *
  generalize needB a1 a2 = nb at *
  go_enter Try.func3, Try.ntmps3
  go_wp2_with fail
  refine (RX.out _).mono ?_
  rintro e y1 ⟨rfl, rfl⟩
  go_wp2_with fail
  refine (QX.out _).mono ?_
  rintro e y1 ⟨rfl, rfl⟩
  go_wp2_with fail
  refine (RR.out _).mono ?_
  rintro e y0 ⟨u0, rfl, o0, b0⟩
  have O0_0 := Lib.hid (o0.mono (Nat.le_refl _))
  have B0 := Lib.hid b0
  clear o0 b0
  go_wp2_with fail
  refine (QR.out _).mono ?_
  rintro e y1 ⟨u1, rfl, o1, b1⟩
  have O0_1 := Lib.hid (O0_0.out.below b1)
  have O1_1 := Lib.hid (o1.mono B0.out.size)
  have B1 := Lib.hid (below_call B0.out b1)
  clear o1 b1 O0_0
  go_wp2_with fail
  refine (RM.out _).mono ?_
  rintro e y2 ⟨u2, rfl, o2, b2⟩
  have O0_2 := Lib.hid (O0_1.out.below b2)
  have O1_2 := Lib.hid (O1_1.out.below b2)
  have O2_2 := Lib.hid (o2.mono B1.out.size)
  have B2 := Lib.hid (below_call B1.out b2)
  clear o2 b2 O0_1 O1_1
  go_wp2_with fail
  refine (QM.out _).mono ?_
  rintro e y3 ⟨u3, rfl, o3, b3⟩
  have O0_3 := Lib.hid (O0_2.out.below b3)
  have O1_3 := Lib.hid (O1_2.out.below b3)
  have O2_3 := Lib.hid (O2_2.out.below b3)
  have O3_3 := Lib.hid (o3.mono B2.out.size)
  have B3 := Lib.hid (below_call B2.out b3)
  clear o3 b3 O0_2 O1_2 O2_2
  go_wp2_with fail
  refine (RN.out _).mono ?_
  rintro e y4 ⟨u4, rfl, o4, b4⟩
  have O0_4 := Lib.hid (O0_3.out.below b4)
  have O1_4 := Lib.hid (O1_3.out.below b4)
  have O2_4 := Lib.hid (O2_3.out.below b4)
  have O3_4 := Lib.hid (O3_3.out.below b4)
  have O4_4 := Lib.hid (o4.mono B3.out.size)
  have B4 := Lib.hid (below_call B3.out b4)
  clear o4 b4 O0_3 O1_3 O2_3 O3_3
  go_wp2_with fail
  refine (QN.out _).mono ?_
  rintro e y5 ⟨u5, rfl, o5, b5⟩
  have O0_5 := Lib.hid (O0_4.out.below b5)
  have O1_5 := Lib.hid (O1_4.out.below b5)
  have O2_5 := Lib.hid (O2_4.out.below b5)
  have O3_5 := Lib.hid (O3_4.out.below b5)
  have O4_5 := Lib.hid (O4_4.out.below b5)
  have O5_5 := Lib.hid (o5.mono B4.out.size)
  have B5 := Lib.hid (below_call B4.out b5)
  clear o5 b5 O0_4 O1_4 O2_4 O3_4 O4_4
  have c0 := conv_own O0_5.out K1.out
  have c1 := conv_own O1_5.out K1.out
  have c2 := conv_own O2_5.out K2.out
  have c3 := conv_own O3_5.out K2.out
  have c4 := conv_own O4_5.out K3.out
  have c5 := conv_own O5_5.out K3.out
  clear O0_5 O1_5 O2_5 O3_5 O4_5 O5_5
  go_wp2_with fail
  refine (RD.out _).mono ?_
  rintro e y6 ⟨rfl, rfl⟩
  go_wp2_with fail
  refine (QD.out _).mono ?_
  rintro e y6 ⟨rfl, rfl⟩
  go_wp2_with fail
  refine (wakes_n _).mono ?_
  rintro e y6 ⟨rfl, b6⟩
  have B6 := Lib.hid (below_call B5.out b6)
  clear b6
  go_wp2_with fail
  go_ret
  exact ⟨rfl, B6.out⟩
end Go.Proofs.Ytnechhoknaepiaa.Mrm
