/-
  The walk of the law TraceFuel.
-/
import Derived.Test.YtpbnmbeedjhloaaTrcG
namespace Go.Proofs.Ytpbnmbeedjhloaa.Trc
open Go.RowKit
set_option linter.unusedVariables false

set_option maxHeartbeats 4000000 in
theorem traceFuel_walk (n m : Int) (W : World) : Calls Try.prog 11 #[.int .i64 n, .int .i64 m] W fun e w' => e = .returned (.bool true) ∧ Below W.heap.size W w' := by
  have F1 := Lib.hid (fun w => fuel_any n w)
  have F2 := Lib.hid (fun w => fuel_any m w)
  have q1 := Lib.hid (show fuelI n = 64 * (min (max n 0) 10000) + 64 from rfl)
  have q2 := Lib.hid (show fuelI m = 64 * (min (max m 0) 10000) + 64 from rfl)
  have b1 : 0 ≤ min (max n 0) 10000 ∧ min (max n 0) 10000 ≤ 10000 := by omega
  have b2 : 0 ≤ min (max m 0) 10000 ∧ min (max m 0) 10000 ≤ 10000 := by omega
  generalize fuelI n = f at *
  generalize fuelI m = g at *
  generalize hx : min (max n 0) 10000 = x at *
  generalize hy : min (max m 0) 10000 = y at *
  obtain ⟨b10, b11⟩ := b1
  obtain ⟨b20, b21⟩ := b2
  have g1 := q1.out
  have g2 := q2.out
  have h64 : 64 ≤ f := by omega
  have hle : f ≤ 640064 := by omega
  have h64' : 64 ≤ g := by omega
  have hle' : g ≤ 640064 := by omega
  have e1 : (f - g == 64 * (x - y)) = true := by simp; omega
  have e2 : decide (64 ≤ f) = true := decide_eq_true h64
  have hz := Lib.hid (show ¬ 0 < x → f = 64 by omega)
  clear g1 g2
  by_cases h0 : 0 < x
  · have e3 : decide (0 < x) = true := decide_eq_true h0
    clear hz
    go_enter Try.func11, Try.ntmps11
    go_wp2_with fail
    refine (F1.out _).mono ?_
    rintro e w1 ⟨rfl, rfl⟩
    go_wp2_with fail
    refine (F2.out _).mono ?_
    rintro e w1 ⟨rfl, rfl⟩
    go_wp2_with fail
    refine (wakes_any _).mono ?_
    rintro e w1 ⟨rfl, b9⟩
    go_wp2_with fail
    go_ret
    exact ⟨rfl, b9⟩
  · have e3 : decide (0 < x) = false := decide_eq_false h0
    have hf := hz.out h0
    subst hf
    go_enter Try.func11, Try.ntmps11
    go_wp2_with fail
    refine (F1.out _).mono ?_
    rintro e w1 ⟨rfl, rfl⟩
    go_wp2_with fail
    refine (F2.out _).mono ?_
    rintro e w1 ⟨rfl, rfl⟩
    go_wp2_with fail
    refine (wakes_any _).mono ?_
    rintro e w1 ⟨rfl, b9⟩
    go_wp2_with fail
    go_ret
    exact ⟨rfl, b9⟩
theorem traceFuel_law (n m : Int) (W : World) (_ : (Lit.int .i64 n).wf = true) (_ : (Lit.int .i64 m).wf = true) : Calls Try.prog 11 #[.int .i64 n, .int .i64 m] W fun e w' => e = .returned (.bool true) ∧ Below W.heap.size W w' := traceFuel_walk n m W
end Go.Proofs.Ytpbnmbeedjhloaa.Trc
