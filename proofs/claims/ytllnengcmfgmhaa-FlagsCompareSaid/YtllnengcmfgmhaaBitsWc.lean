/-
  The calls of package bits, each as a contract: what it answers, and that it writes nothing that was there.
-/
import Derived.Test.YtllnengcmfgmhaaBitsW
import Derived.WalkKit
import Derived.WalkSpells
import Derived.WalkLawsBesides
import Derived.Laws.EntriesVeiled
import Derived.Lib.Hide
import Derived.Deep.QuietTactic
import Derived.BigQuiet
namespace Go.Proofs.Ytllnengcmfgmhaa
open Go.RowKit


set_option maxHeartbeats 1000000 in
theorem compute_6_64 (a b : Int) (W : World) (hb0 : 0 ≤ b) (hb1 : b < 18446744073709551616) :
    Calls Try.prog 39 #[.int .i8 6, .int .i8 64, .int .u64 a, .int .u64 b] W fun e w' => e = .returned (.int .u64 (opI 6 64 a b)) ∧ Below W.heap.size W w' := by
  have hmf : ∀ (fn : Fn) (first cap : Array Value) (w : World), (Instr.makeFunc fn first cap).run Try.prog w = .ok (.func fn first cap) w := fun _ _ _ _ => rfl
  have e1 := and_63 b hb0 hb1
  have e2 : 0 ≤ b % 64 := by omega
  have e3 : min (b % 64).toNat 64 = (b % 64).toNat := by omega
  have e4 : cntI 64 b = (b % 64).toNat := rfl
  go_enter Try.func39, Try.ntmps39
  go_wp2
  go_ret
  refine ⟨retI ?_, ((((Below.refl _ _).alloc (Nat.le_refl _) _).alloc (by simp) _).alloc (by simp; omega) _)⟩
  rw [opI_6, IntKind.wrap_u64, e4]

set_option maxHeartbeats 1000000 in
theorem compute_7_64 (a b : Int) (W : World) (hb0 : 0 ≤ b) (hb1 : b < 18446744073709551616) :
    Calls Try.prog 39 #[.int .i8 7, .int .i8 64, .int .u64 a, .int .u64 b] W fun e w' => e = .returned (.int .u64 (opI 7 64 a b)) ∧ Below W.heap.size W w' := by
  have hmf : ∀ (fn : Fn) (first cap : Array Value) (w : World), (Instr.makeFunc fn first cap).run Try.prog w = .ok (.func fn first cap) w := fun _ _ _ _ => rfl
  have e1 := and_63 b hb0 hb1
  have e2 : 0 ≤ b % 64 := by omega
  have e3 : min (b % 64).toNat 64 = (b % 64).toNat := by omega
  have e4 : cntI 64 b = (b % 64).toNat := rfl
  go_enter Try.func39, Try.ntmps39
  go_wp2
  go_ret
  refine ⟨retI ?_, ((((Below.refl _ _).alloc (Nat.le_refl _) _).alloc (by simp) _).alloc (by simp; omega) _)⟩
  rw [opI_7, e4]

set_option maxHeartbeats 400000 in
theorem count_64 (b : Int) (p : Addr) (W : World) (h0 : 0 ≤ b) (h1 : b < 18446744073709551616) (hp : W.cell? p = some (.int .i8 64)) :
    Calls Try.prog 50 #[.int .u64 b, .pointer (some p)] W fun e w' => e = .returned (.int .u64 (b % 64)) ∧ W = w' := by
  go_enter Try.func50, Try.ntmps50
  go_wp2
  go_ret
  exact ⟨retI (by rw [and_63 b h0 h1]), rfl⟩
set_option maxHeartbeats 1000000 in
theorem arsh_64 (a b : Int) (p q : Addr) (W : World) (h0 : 0 ≤ b) (h1 : b < 18446744073709551616) (hq : W.cell? q = some (.int .i8 64))
    (hp : W.cell? p = some (.func (.func 50) #[] #[.pointer (some q)])) :
    Calls Try.prog 63 #[.int .u64 a, .int .u64 b, .pointer (some q), .pointer (some p)] W fun e w' => e = .returned (.int .u64 (opI 12 64 a b)) ∧ ∃ n, W.drewN n = w' := by
  have e2 : 0 ≤ b % 64 := by omega
  have e3 : min (b % 64).toNat 64 = (b % 64).toNat := by omega
  go_enter Try.func63, Try.ntmps63
  go_wp2
  go_quiet ((first | (go_at_call 64; exact quiet_left (sign_any _ _ _)) | (go_at_call 50; exact quiet_left (count_64 _ _ _ h0 h1 hq))))
  go_wp2
  go_ret
  refine ⟨retI ?_, _, rfl⟩
  rw [opI_12, IntKind.wrap_u64, show wrap64 (signI a 64) = sgnI a 64 from (IntWalk.i64_left _).symm.trans (wrap64_sign64 a)]; rfl
set_option maxHeartbeats 1000000 in
theorem compute_12_64 (a b : Int) (W : World) (hb0 : 0 ≤ b) (hb1 : b < 18446744073709551616) :
    Calls Try.prog 39 #[.int .i8 12, .int .i8 64, .int .u64 a, .int .u64 b] W fun e w' => e = .returned (.int .u64 (opI 12 64 a b)) ∧ Below W.heap.size W w' := by
  have hmf : ∀ (fn : Fn) (first cap : Array Value) (w : World), (Instr.makeFunc fn first cap).run Try.prog w = .ok (.func fn first cap) w := fun _ _ _ _ => rfl
  go_enter Try.func39, Try.ntmps39
  go_wp2_with (go_at_call 63; refine (arsh_64 a b ⟨W.heap.size + 1, 0, none⟩ ⟨W.heap.size, 0, none⟩ _ hb0 hb1 (by go_simp) (by go_simp)).mono ?_; rintro e w' ⟨rfl, n, rfl⟩)
  go_ret
  refine ⟨rfl, below_drewN ((((Below.refl _ _).alloc (Nat.le_refl _) _).alloc (by simp) _).alloc (by simp; omega) _) _⟩

end Go.Proofs.Ytllnengcmfgmhaa
