/-
  The document's answer latheref03: code, Args, Target; the program's Args.
-/
import Derived.Test.YtbflanpfcbbblaaRinA
import Derived.Test.YtbflanpfcbbblaaInsG
namespace Go.Proofs.Ytbflanpfcbbblaa.Ins
open Go.RowKit
set_option linter.unusedVariables false

def argsI (n : Int) : Int := if n < 0 ∨ 16 ≤ n then 0 else n % 6
theorem args_any (n : Int) (W : World) : Calls Try.prog 18 #[.int .i64 n] W fun e w' => e = .returned (.int .i64 (argsI n)) ∧ W = w' := by
  have hc : n < 0 ∨ (0 ≤ n ∧ 16 ≤ n) ∨ (0 ≤ n ∧ n < 16) := by omega
  rcases hc with h | ⟨h, h'⟩ | ⟨h, h'⟩
  · rw [show argsI n = 0 from if_pos (by omega)]
    go_enter Try.func18, Try.ntmps18
    go_wp2
    go_ret
    exact ⟨rfl, rfl⟩
  · rw [show argsI n = 0 from if_pos (by omega)]
    go_enter Try.func18, Try.ntmps18
    go_wp2
    go_ret
    exact ⟨rfl, rfl⟩
  · rw [show argsI n = n % 6 from if_neg (by omega)]
    go_enter Try.func18, Try.ntmps18
    go_wp2
    go_ret
    exact ⟨rfl, rfl⟩
theorem r_args (n : Int) (W : World) : Calls Try.prog 19 #[.int .i64 n] W fun e w' => e = .returned (.int .i64 (argsI n)) ∧ W = w' := by
  have hc : n < 0 ∨ (0 ≤ n ∧ 16 ≤ n) ∨ (0 ≤ n ∧ n < 16) := by omega
  rcases hc with h | ⟨h, h'⟩ | ⟨h, h'⟩
  · rw [show argsI n = 0 from if_pos (by omega)]
    go_enter Try.func19, Try.ntmps19
    go_wp2
    go_ret
    exact ⟨rfl, rfl⟩
  · rw [show argsI n = 0 from if_pos (by omega)]
    go_enter Try.func19, Try.ntmps19
    go_wp2
    go_ret
    exact ⟨rfl, rfl⟩
  · rw [show argsI n = n % 6 from if_neg (by omega)]
    go_enter Try.func19, Try.ntmps19
    go_wp2
    go_ret
    exact ⟨rfl, rfl⟩

set_option maxRecDepth 100000 in
set_option maxHeartbeats 4000000 in
theorem r_target (i : Int) (x : In) (W : World) :
    Calls Try.prog 15 #[.int .i64 i, .agg x.cells] W fun e w' => e = .returned (.tuple #[.int .i64 (targetI i x), .bool (jumpsI i x)]) ∧ Below W.heap.size W w' := by
  have hj : jumpsI i x = decide ((x.kind = 3 ∨ x.kind = 4) ∧ (-1099511627776 ≤ i ∧ i ≤ 1099511627776) ∧ (-1099511627776 ≤ x.off ∧ x.off ≤ 1099511627776)) := by
    unfold jumpsI nearI; rw [Bool.eq_iff_iff]; simp [and_assoc]
  unfold targetI
  rw [hj]
  clear hj
  obtain ⟨kind, op, width, size, byReg, dst, src, off, imm⟩ := x
  unfold In.cells
  simp only
  have hc : (¬ kind = 3 ∧ ¬ kind = 4) ∨ ((kind = 3 ∨ kind = 4) ∧ (i < -1099511627776 ∨ (-1099511627776 ≤ i ∧ 1099511627776 < i) ∨ (-1099511627776 ≤ i ∧ i ≤ 1099511627776 ∧ off < -1099511627776) ∨ (-1099511627776 ≤ i ∧ i ≤ 1099511627776 ∧ -1099511627776 ≤ off ∧ 1099511627776 < off) ∨ (-1099511627776 ≤ i ∧ i ≤ 1099511627776 ∧ -1099511627776 ≤ off ∧ off ≤ 1099511627776))) := by omega
  rcases hc with ⟨h3, h4⟩ | ⟨rfl | rfl, h1 | ⟨h1, h2⟩ | ⟨h1, h2, h5⟩ | ⟨h1, h2, h5, h6⟩ | ⟨h1, h2, h5, h6⟩⟩
  · rw [decide_eq_false (by omega), if_neg (by simp)]
    go_enter Try.func15, Try.ntmps15
    go_wp2
    go_ret2
    exact ⟨rfl, below_new (Below.refl _ _) _⟩
  all_goals
    first
    | rw [decide_eq_false (by omega), if_neg (by simp)]
    | rw [decide_eq_true (by omega), if_pos rfl]
    go_enter Try.func15, Try.ntmps15
    go_wp2
    go_ret2
    exact ⟨rfl, below_new (Below.refl _ _) _⟩

theorem r_log' (n r : Int) (h : lgI n = r) (W : World) : Calls Try.prog 51 #[.int .i8 n] W fun e w' => e = .returned (.int .i64 r) ∧ W = w' := by
  subst h; exact r_log n W
set_option maxRecDepth 100000 in
set_option maxHeartbeats 4000000 in
theorem r_code (x : In) (W : World) (h : mayI x = true) : Calls Try.prog 30 #[.agg x.cells] W fun e w' => e = .returned (.int .i64 (codeI x)) ∧ Below W.heap.size W w' := by
  have hc := code_cases h
  clear h
  generalize codeI x = c at *
  obtain ⟨kind, op, width, size, byReg, dst, src, off, imm⟩ := x
  unfold In.cells
  simp only at *
  rcases hc with ⟨rfl, o0, o1, rfl, ⟨rfl, rfl, rfl⟩ | ⟨rfl, rfl, rfl⟩ | ⟨rfl, rfl, rfl⟩ | ⟨rfl, rfl, rfl⟩⟩ | ⟨rfl, rfl, rfl, rfl, ⟨rfl, rfl⟩ | ⟨rfl, rfl⟩ | ⟨rfl, rfl⟩ | ⟨rfl, rfl⟩⟩ | ⟨rfl, rfl, rfl, rfl, ⟨rfl, rfl⟩ | ⟨rfl, rfl⟩ | ⟨rfl, rfl⟩ | ⟨rfl, rfl⟩⟩ | ⟨rfl, o0, o1, rfl, rfl, ⟨rfl, rfl⟩ | ⟨rfl, rfl⟩⟩ | ⟨rfl, rfl, rfl, rfl, rfl, rfl⟩ | ⟨rfl, rfl, rfl, rfl, rfl, rfl⟩ | ⟨rfl, rfl, rfl, rfl, rfl, rfl⟩
  all_goals
    go_enter Try.func30, Try.ntmps30
    go_wp2_with (go_at_call 51; first | ((with_reducible refine (r_log' 1 0 rfl _).mono ?_); rintro e w' ⟨rfl, rfl⟩) | ((with_reducible refine (r_log' 2 1 rfl _).mono ?_); rintro e w' ⟨rfl, rfl⟩) | ((with_reducible refine (r_log' 4 2 rfl _).mono ?_); rintro e w' ⟨rfl, rfl⟩) | ((with_reducible refine (r_log' 8 3 rfl _).mono ?_); rintro e w' ⟨rfl, rfl⟩))
    go_ret
    refine ⟨retI ?_, below_new (Below.refl _ _) _⟩
    first | rfl | omega
end Go.Proofs.Ytbflanpfcbbblaa.Ins
