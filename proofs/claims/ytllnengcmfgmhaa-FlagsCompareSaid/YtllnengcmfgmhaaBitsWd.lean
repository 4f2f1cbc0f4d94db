/-
  The calls of package bits, each as a contract: what it answers, and that it writes nothing that was there.
-/
import Derived.Test.YtllnengcmfgmhaaBitsW
import Derived.WalkKit
import Derived.WalkSpells
import Derived.WalkLawsBesides
import Derived.Laws.EntriesVeiled
import Derived.Lib.Hide
import Derived.Deep.QuietTactic
import Derived.BigQuiet
namespace Go.Proofs.Ytllnengcmfgmhaa
open Go.RowKit


set_option maxHeartbeats 1000000 in
theorem compute_3 (w a b : Int) (W : World) (ha0 : 0 ≤ a) (ha1 : a < 18446744073709551616) (hb0 : 0 ≤ b) (hb1 : b < 18446744073709551616) :
    Calls Try.prog 39 #[.int .i8 3, .int .i8 w, .int .u64 a, .int .u64 b] W fun e w' => e = .returned (.int .u64 (opI 3 w a b)) ∧ Below W.heap.size W w' := by
  have hmf : ∀ (fn : Fn) (first cap : Array Value) (w : World), (Instr.makeFunc fn first cap).run Try.prog w = .ok (.func fn first cap) w := fun _ _ _ _ => rfl
  by_cases hz : b = 0
  · subst hz
    clear hb0 hb1
    go_enter Try.func39, Try.ntmps39
    go_wp2
    go_ret
    refine ⟨retI ?_, ((((Below.refl _ _).alloc (Nat.le_refl _) _).alloc (by simp) _).alloc (by simp; omega) _)⟩
    rw [opI_3, if_pos rfl]
  · have hz' := neq_of hz
    go_enter Try.func39, Try.ntmps39
    go_wp2
    go_ret
    refine ⟨retI ?_, ((((Below.refl _ _).alloc (Nat.le_refl _) _).alloc (by simp) _).alloc (by simp; omega) _)⟩
    rw [opI_3, if_neg hz]

set_option maxHeartbeats 1000000 in
theorem compute_9 (w a b : Int) (W : World) (ha0 : 0 ≤ a) (ha1 : a < 18446744073709551616) (hb0 : 0 ≤ b) (hb1 : b < 18446744073709551616) :
    Calls Try.prog 39 #[.int .i8 9, .int .i8 w, .int .u64 a, .int .u64 b] W fun e w' => e = .returned (.int .u64 (opI 9 w a b)) ∧ Below W.heap.size W w' := by
  have hmf : ∀ (fn : Fn) (first cap : Array Value) (w : World), (Instr.makeFunc fn first cap).run Try.prog w = .ok (.func fn first cap) w := fun _ _ _ _ => rfl
  by_cases hz : b = 0
  · subst hz
    clear hb0 hb1
    go_enter Try.func39, Try.ntmps39
    go_wp2
    go_ret
    refine ⟨retI ?_, ((((Below.refl _ _).alloc (Nat.le_refl _) _).alloc (by simp) _).alloc (by simp; omega) _)⟩
    rw [opI_9, if_pos rfl]
  · have hz' := neq_of hz
    go_enter Try.func39, Try.ntmps39
    go_wp2
    go_ret
    refine ⟨retI ?_, ((((Below.refl _ _).alloc (Nat.le_refl _) _).alloc (by simp) _).alloc (by simp; omega) _)⟩
    rw [opI_9, if_neg hz]

end Go.Proofs.Ytllnengcmfgmhaa
