/-
  The document's own memory, latheref02: too long.
-/
import Derived.Test.YtpbnmbeedjhloaaRmG
namespace Go.Proofs.Ytpbnmbeedjhloaa.Rm
open Go.RowKit
set_option linter.unusedVariables false
set_option maxRecDepth 100000

set_option maxHeartbeats 1000000 in
theorem r_new_long (ca : Option Addr) (cl cc : Nat) (ka : Option Addr) (kl kc : Nat) (st : Bool) (W : World) (h : 256 < cl ∨ 16384 < kl) :
    Calls Try.prog 16 #[.slice ca cl cc, .slice ka kl kc, .bool st] W fun e w' => e = .returned (.tuple #[.pointer none, .int .i64 3]) ∧ W = w' := by
  by_cases h1 : 256 < cl
  · have k1 : (256 : Int) < cl := by omega
    clear h
    go_enter Try.func16, Try.ntmps16
    go_wp2
    go_ret2
    exact ⟨rfl, rfl⟩
  · have k1 : (cl : Int) ≤ 256 := by omega
    have k2 : (16384 : Int) < kl := by omega
    clear h
    go_enter Try.func16, Try.ntmps16
    go_wp2
    go_ret2
    exact ⟨rfl, rfl⟩
end Go.Proofs.Ytpbnmbeedjhloaa.Rm
