/-
  The calls of package bits, each as a contract: what it answers, and that it writes nothing that was there.
-/
import Derived.Test.YtllnengcmfgmhaaRows
import Derived.Test.YtllnengcmfgmhaaBitsM
import Derived.WalkKit
import Derived.WalkSpells
import Derived.WalkLawsBesides
import Derived.Laws.EntriesVeiled
import Derived.Lib.Hide
import Derived.Deep.QuietTactic
import Derived.BigQuiet
namespace Go.Proofs.Ytllnengcmfgmhaa
open Go.RowKit

theorem neq_of {a b : Int} (h : ¬ a = b) : (a == b) = false := by simpa using h
theorem retI {k : IntKind} {a b : Int} (h : a = b) : Ending.returned (.int k a) = .returned (.int k b) := by rw [h]
theorem wrap_u16' (n : Int) : IntKind.u64.wrap (IntKind.u16.wrap n) = n % 65536 := by
  simp only [IntKind.wrap, IntKind.bits, IntKind.signed]; simp; omega
theorem wrap_i8' (n : Int) : IntKind.i8.wrap n = (n + 128) % 256 - 128 := by
  simp only [IntKind.wrap, IntKind.bits, IntKind.signed]; simp; split <;> omega
theorem wrap_i16' (n : Int) : IntKind.i16.wrap n = (n + 32768) % 65536 - 32768 := by
  simp only [IntKind.wrap, IntKind.bits, IntKind.signed]; simp; split <;> omega
theorem wrap_i32' (n : Int) : wrap32 n = (n + 2147483648) % 4294967296 - 2147483648 := by rw [wrap32]
theorem retB {a b : Bool} (h : a = b) : Ending.returned (.bool a) = .returned (.bool b) := by rw [h]

set_option maxHeartbeats 400000 in
theorem cut_any (v w : Int) (W : World) :
    Calls Try.prog 28 #[.int .u64 v, .int .i8 w] W fun e w' => e = .returned (.int .u64 (cutI v w)) ∧ W = w' := by
  by_cases a : w = 8
  · subst a
    go_enter Try.func28, Try.ntmps28
    go_wp2
    go_ret
    exact ⟨rfl, rfl⟩
  by_cases b : w = 16
  · subst b
    go_enter Try.func28, Try.ntmps28
    go_wp2
    go_ret
    exact ⟨retI (by rw [cutI_16, wrap_u16']), rfl⟩
  by_cases c : w = 32
  · subst c
    go_enter Try.func28, Try.ntmps28
    go_wp2
    go_ret
    exact ⟨rfl, rfl⟩
  have d : cutI v w = v := by unfold cutI; rw [if_neg a, if_neg b, if_neg c]
  rw [d]; clear d
  have a' := neq_of a
  have b' := neq_of b
  have c' := neq_of c
  go_enter Try.func28, Try.ntmps28
  go_wp2
  go_ret
  exact ⟨rfl, rfl⟩

set_option maxHeartbeats 400000 in
theorem sign_any (v w : Int) (W : World) :
    Calls Try.prog 64 #[.int .u64 v, .int .i8 w] W fun e w' => e = .returned (.int .u64 (signI v w)) ∧ W = w' := by
  by_cases a : w = 8
  · subst a
    go_enter Try.func64, Try.ntmps64
    go_wp2
    go_ret
    exact ⟨retI (by rw [signI_8, IntKind.wrap_u64, wrap_i8']), rfl⟩
  by_cases b : w = 16
  · subst b
    go_enter Try.func64, Try.ntmps64
    go_wp2
    go_ret
    exact ⟨retI (by rw [signI_16, IntKind.wrap_u64, wrap_i16']), rfl⟩
  by_cases c : w = 32
  · subst c
    go_enter Try.func64, Try.ntmps64
    go_wp2
    go_ret
    exact ⟨retI (by rw [signI_32, IntKind.wrap_u64, wrap_i32']), rfl⟩
  have d : signI v w = v := by unfold signI; rw [if_neg a, if_neg b, if_neg c]
  rw [d]; clear d
  have a' := neq_of a
  have b' := neq_of b
  have c' := neq_of c
  go_enter Try.func64, Try.ntmps64
  go_wp2
  go_ret
  exact ⟨rfl, rfl⟩

set_option maxHeartbeats 400000 in
theorem computes_any (w : Int) (W : World) :
    Calls Try.prog 38 #[.int .i8 w] W fun e w' => e = .returned (.bool (longB w)) ∧ W = w' := by
  by_cases a : w = 32
  · subst a
    go_enter Try.func38, Try.ntmps38
    go_wp2
    go_ret
    exact ⟨rfl, rfl⟩
  have d : longB w = (w == 64) := by unfold longB; rw [neq_of a]; rfl
  rw [d]; clear d
  have a' := neq_of a
  go_enter Try.func38, Try.ntmps38
  go_wp2
  go_ret
  exact ⟨rfl, rfl⟩


theorem quiet_left {P : Program} {f : FuncId} {args : Array Value} {w : World} {n : Nat} {v : Value}
    (h : Calls P f args (w.drewN n) fun e w' => e = .returned v ∧ w.drewN n = w') : Calls P f args (w.drewN n) fun e w'' => e = .returned v ∧ ∃ m, w'' = w.drewN m :=
  h.mono fun _ _ ⟨he, hm⟩ => ⟨he, n, hm.symm⟩

set_option maxHeartbeats 1000000 in
theorem compute_0 (w a b : Int) (W : World) :
    Calls Try.prog 39 #[.int .i8 0, .int .i8 w, .int .u64 a, .int .u64 b] W fun e w' => e = .returned (.int .u64 (opI 0 w a b)) ∧ Below W.heap.size W w' := by
  have hmf : ∀ (fn : Fn) (first cap : Array Value) (w : World), (Instr.makeFunc fn first cap).run Try.prog w = .ok (.func fn first cap) w := fun _ _ _ _ => rfl
  go_enter Try.func39, Try.ntmps39
  go_wp2
  go_ret
  refine ⟨retI ?_, ((((Below.refl _ _).alloc (Nat.le_refl _) _).alloc (by simp) _).alloc (by simp; omega) _)⟩
  rw [opI_0, IntKind.wrap_u64]

set_option maxHeartbeats 1000000 in
theorem compute_1 (w a b : Int) (W : World) :
    Calls Try.prog 39 #[.int .i8 1, .int .i8 w, .int .u64 a, .int .u64 b] W fun e w' => e = .returned (.int .u64 (opI 1 w a b)) ∧ Below W.heap.size W w' := by
  have hmf : ∀ (fn : Fn) (first cap : Array Value) (w : World), (Instr.makeFunc fn first cap).run Try.prog w = .ok (.func fn first cap) w := fun _ _ _ _ => rfl
  go_enter Try.func39, Try.ntmps39
  go_wp2
  go_ret
  refine ⟨retI ?_, ((((Below.refl _ _).alloc (Nat.le_refl _) _).alloc (by simp) _).alloc (by simp; omega) _)⟩
  rw [opI_1, IntKind.wrap_u64]

set_option maxHeartbeats 1000000 in
theorem compute_2 (w a b : Int) (W : World) :
    Calls Try.prog 39 #[.int .i8 2, .int .i8 w, .int .u64 a, .int .u64 b] W fun e w' => e = .returned (.int .u64 (opI 2 w a b)) ∧ Below W.heap.size W w' := by
  have hmf : ∀ (fn : Fn) (first cap : Array Value) (w : World), (Instr.makeFunc fn first cap).run Try.prog w = .ok (.func fn first cap) w := fun _ _ _ _ => rfl
  go_enter Try.func39, Try.ntmps39
  go_wp2
  go_ret
  refine ⟨retI ?_, ((((Below.refl _ _).alloc (Nat.le_refl _) _).alloc (by simp) _).alloc (by simp; omega) _)⟩
  rw [opI_2, IntKind.wrap_u64]

set_option maxHeartbeats 1000000 in
theorem compute_4 (w a b : Int) (W : World) (ha0 : 0 ≤ a) (ha1 : a < 18446744073709551616) (hb0 : 0 ≤ b) (hb1 : b < 18446744073709551616) :
    Calls Try.prog 39 #[.int .i8 4, .int .i8 w, .int .u64 a, .int .u64 b] W fun e w' => e = .returned (.int .u64 (opI 4 w a b)) ∧ Below W.heap.size W w' := by
  have hmf : ∀ (fn : Fn) (first cap : Array Value) (w : World), (Instr.makeFunc fn first cap).run Try.prog w = .ok (.func fn first cap) w := fun _ _ _ _ => rfl
  go_enter Try.func39, Try.ntmps39
  go_wp2
  go_ret
  refine ⟨retI ?_, ((((Below.refl _ _).alloc (Nat.le_refl _) _).alloc (by simp) _).alloc (by simp; omega) _)⟩
  rw [opI_4, u64_or a b ha0 ha1 hb0 hb1]

set_option maxHeartbeats 1000000 in
theorem compute_5 (w a b : Int) (W : World) (ha0 : 0 ≤ a) (ha1 : a < 18446744073709551616) (hb0 : 0 ≤ b) (hb1 : b < 18446744073709551616) :
    Calls Try.prog 39 #[.int .i8 5, .int .i8 w, .int .u64 a, .int .u64 b] W fun e w' => e = .returned (.int .u64 (opI 5 w a b)) ∧ Below W.heap.size W w' := by
  have hmf : ∀ (fn : Fn) (first cap : Array Value) (w : World), (Instr.makeFunc fn first cap).run Try.prog w = .ok (.func fn first cap) w := fun _ _ _ _ => rfl
  go_enter Try.func39, Try.ntmps39
  go_wp2
  go_ret
  refine ⟨retI ?_, ((((Below.refl _ _).alloc (Nat.le_refl _) _).alloc (by simp) _).alloc (by simp; omega) _)⟩
  rw [opI_5, u64_and a b ha0 ha1 hb0 hb1]

set_option maxHeartbeats 1000000 in
theorem compute_8 (w a b : Int) (W : World) :
    Calls Try.prog 39 #[.int .i8 8, .int .i8 w, .int .u64 a, .int .u64 b] W fun e w' => e = .returned (.int .u64 (opI 8 w a b)) ∧ Below W.heap.size W w' := by
  have hmf : ∀ (fn : Fn) (first cap : Array Value) (w : World), (Instr.makeFunc fn first cap).run Try.prog w = .ok (.func fn first cap) w := fun _ _ _ _ => rfl
  go_enter Try.func39, Try.ntmps39
  go_wp2
  go_ret
  refine ⟨retI ?_, ((((Below.refl _ _).alloc (Nat.le_refl _) _).alloc (by simp) _).alloc (by simp; omega) _)⟩
  rw [opI_8, IntKind.wrap_u64]

set_option maxHeartbeats 1000000 in
theorem compute_10 (w a b : Int) (W : World) (ha0 : 0 ≤ a) (ha1 : a < 18446744073709551616) (hb0 : 0 ≤ b) (hb1 : b < 18446744073709551616) :
    Calls Try.prog 39 #[.int .i8 10, .int .i8 w, .int .u64 a, .int .u64 b] W fun e w' => e = .returned (.int .u64 (opI 10 w a b)) ∧ Below W.heap.size W w' := by
  have hmf : ∀ (fn : Fn) (first cap : Array Value) (w : World), (Instr.makeFunc fn first cap).run Try.prog w = .ok (.func fn first cap) w := fun _ _ _ _ => rfl
  go_enter Try.func39, Try.ntmps39
  go_wp2
  go_ret
  refine ⟨retI ?_, ((((Below.refl _ _).alloc (Nat.le_refl _) _).alloc (by simp) _).alloc (by simp; omega) _)⟩
  rw [opI_10, u64_xor a b ha0 ha1 hb0 hb1]

set_option maxHeartbeats 1000000 in
theorem compute_11 (w a b : Int) (W : World) :
    Calls Try.prog 39 #[.int .i8 11, .int .i8 w, .int .u64 a, .int .u64 b] W fun e w' => e = .returned (.int .u64 (opI 11 w a b)) ∧ Below W.heap.size W w' := by
  have hmf : ∀ (fn : Fn) (first cap : Array Value) (w : World), (Instr.makeFunc fn first cap).run Try.prog w = .ok (.func fn first cap) w := fun _ _ _ _ => rfl
  go_enter Try.func39, Try.ntmps39
  go_wp2
  go_ret
  refine ⟨retI ?_, ((((Below.refl _ _).alloc (Nat.le_refl _) _).alloc (by simp) _).alloc (by simp; omega) _)⟩
  rw [opI_11]

end Go.Proofs.Ytllnengcmfgmhaa
