/-
  What the laws of layer 3 share: Great, wakes.
-/
import Derived.Test.YtbpefomjmjkciaaInsF
import Derived.Test.YtbpefomjmjkciaaStr
namespace Go.Proofs.Ytbpefomjmjkciaa.Ins
open Go.RowKit
set_option linter.unusedVariables false

theorem great_any (c : Int) (a : Option Addr) (len cap : Nat) (W : World) : Calls Try.prog 17 #[.agg #[.int .i64 c, .slice a len cap]] W fun e w' => e = .returned (.bool (decide (100 < len))) ∧ Below W.heap.size W w' := by
  by_cases h : 100 < len
  · rw [decide_eq_true h]
    go_enter Try.func17, Try.ntmps17
    go_wp2
    go_ret
    exact ⟨retB (by simp; omega), below_new (Below.refl _ _) _⟩
  · rw [decide_eq_false h]
    go_enter Try.func17, Try.ntmps17
    go_wp2
    go_ret
    exact ⟨retB (by simp; omega), below_new (Below.refl _ _) _⟩

def wk1 : In := ⟨0, 0, 64, 0, false, 1, 0, 0, -1⟩
def wk2 : In := ⟨6, 0, 0, 0, false, 0, 0, 0, 0⟩
theorem wk1_str : strOf (fun i => byteI (packI wk1) i) 8 = ⟨#[0, 1, 0, 0, 255, 255, 255, 255]⟩ := by decide +kernel
theorem wk2_str : strOf (fun i => byteI (packI wk2) i) 8 = ⟨#[113, 0, 0, 0, 0, 0, 0, 0]⟩ := by decide +kernel

set_option maxRecDepth 100000 in
set_option maxHeartbeats 1000000 in
theorem wakes_any (W : World) : Calls Try.prog 11 #[] W fun e w' => e = .returned (.bool true) ∧ Below W.heap.size W w' := by
  have B1 := Lib.hid (fun W => bytes_yes wk1 W (by decide))
  have B2 := Lib.hid (fun W => bytes_yes wk2 W (by decide))
  go_enter Try.func11, Try.ntmps11
  go_wp2_with fail
  refine (B1.out _).mono ?_
  rintro e w1 ⟨z1, rfl, hz1, b1, r1⟩
  have X1 := Lib.hid b1
  have R1 := Lib.hid r1
  clear r1 b1
  go_wp2_with fail
  refine (B2.out _).mono ?_
  rintro e w2 ⟨z2, rfl, hz2, b2, r2⟩
  have c1 := conv_row (R1.out.of_block (b2.block _ R1.out.lt)) 8
  have c2 := conv_row r2 8
  rw [wk1_str] at c1
  rw [wk2_str] at c2
  have X2 := Lib.hid (below_call X1.out b2)
  clear r2 b2
  go_wp2_with fail
  go_ret
  exact ⟨rfl, X2.out⟩
end Go.Proofs.Ytbpefomjmjkciaa.Ins
