/-
  Args, the program's and the document's.
-/
import Derived.Test.YtpbnmbeedjhloaaRows
import Derived.Test.YtpbnmbeedjhloaaStore
import Derived.WalkKit
import Derived.WalkSpells
import Derived.WalkLawsBesides
import Derived.Lib.Hide
import Derived.Handy
namespace Go.Proofs.Ytpbnmbeedjhloaa.Ins
open Go.RowKit
set_option linter.unusedVariables false

def argsI (n : Int) : Int := if n < 0 ∨ 16 ≤ n then 0 else n % 6
theorem args_any (n : Int) (W : World) : Calls Try.prog 108 #[.int .i64 n] W fun e w' => e = .returned (.int .i64 (argsI n)) ∧ W = w' := by
  have hc : n < 0 ∨ (0 ≤ n ∧ 16 ≤ n) ∨ (0 ≤ n ∧ n < 16) := by omega
  rcases hc with h | ⟨h, h'⟩ | ⟨h, h'⟩
  · rw [show argsI n = 0 from if_pos (by omega)]
    go_enter Try.func108, Try.ntmps108
    go_wp2
    go_ret
    exact ⟨rfl, rfl⟩
  · rw [show argsI n = 0 from if_pos (by omega)]
    go_enter Try.func108, Try.ntmps108
    go_wp2
    go_ret
    exact ⟨rfl, rfl⟩
  · rw [show argsI n = n % 6 from if_neg (by omega)]
    go_enter Try.func108, Try.ntmps108
    go_wp2
    go_ret
    exact ⟨rfl, rfl⟩
theorem r_args (n : Int) (W : World) : Calls Try.prog 109 #[.int .i64 n] W fun e w' => e = .returned (.int .i64 (argsI n)) ∧ W = w' := by
  have hc : n < 0 ∨ (0 ≤ n ∧ 16 ≤ n) ∨ (0 ≤ n ∧ n < 16) := by omega
  rcases hc with h | ⟨h, h'⟩ | ⟨h, h'⟩
  · rw [show argsI n = 0 from if_pos (by omega)]
    go_enter Try.func109, Try.ntmps109
    go_wp2
    go_ret
    exact ⟨rfl, rfl⟩
  · rw [show argsI n = 0 from if_pos (by omega)]
    go_enter Try.func109, Try.ntmps109
    go_wp2
    go_ret
    exact ⟨rfl, rfl⟩
  · rw [show argsI n = n % 6 from if_neg (by omega)]
    go_enter Try.func109, Try.ntmps109
    go_wp2
    go_ret
    exact ⟨rfl, rfl⟩
end Go.Proofs.Ytpbnmbeedjhloaa.Ins
