/-
  The walk of the law MemSays.
-/
import Derived.Test.YtocjmckjepjfeaaMemL
import Derived.Lib.MinMax
namespace Go.Proofs.Ytocjmckjepjfeaa
open Go.RowKit
set_option linter.unusedVariables false

theorem loc_is (cn n : Nat) (hs : Bool) (a : Int) (r : Int) (h : (r = 1 ∧ 1048576 ≤ a ∧ a < 1048576 + cn) ∨ (r = 2 ∧ 2097152 ≤ a ∧ a < 2097152 + n) ∨ (r = 3 ∧ 3145728 ≤ a ∧ a < 3145792) ∨ (r = 4 ∧ 4194304 ≤ a ∧ a < 4194568 ∧ hs = true) ∨
    (r = 0 ∧ ¬ (1048576 ≤ a ∧ a < 1048576 + cn) ∧ ¬ (2097152 ≤ a ∧ a < 2097152 + n) ∧ ¬ (3145728 ≤ a ∧ a < 3145792) ∧ ¬ (4194304 ≤ a ∧ a < 4194568 ∧ hs = true))) (h1 : cn ≤ 16384) (h2 : n ≤ 256) : r = locI cn n hs a 1 := by
  unfold locI stkI
  rcases h with ⟨rfl, h⟩ | ⟨rfl, h⟩ | ⟨rfl, h⟩ | ⟨rfl, h, h', rfl⟩ | ⟨rfl, g1, g2, g3, g4⟩
  · rw [if_pos (by omega)]; rfl
  · rw [if_neg (by omega), if_pos (by omega)]; rfl
  · rw [if_neg (by omega), if_neg (by omega), if_pos (by omega)]; rfl
  · rw [if_neg (by omega), if_neg (by omega), if_neg (by omega), if_pos (by simp; omega)]; rfl
  · rw [if_neg (by omega), if_neg (by omega), if_neg (by omega), if_neg (by cases hs <;> simp at g4 ⊢ <;> omega)]; rfl

set_option maxRecDepth 100000 in
set_option maxHeartbeats 4000000 in
theorem refRegion_any (a c k : Int) (st : Bool) (cn n : Nat) (W : World) (ha0 : 0 ≤ a) (ha1 : a < 18446744073709551616) (hk : limI k 16384 = cn) (hn : limI c 256 = n) :
    Calls Try.prog 24 #[.int .u64 a, .int .i64 c, .int .i64 k, .bool st] W fun e w' => e = .returned (.int .i8 (locI cn n st a 1)) ∧ W = w' := by
  have n2 : (n : Int) ≤ 256 := by have := limI_bd c 256 (by omega); omega
  have k2 : (cn : Int) ≤ 16384 := by have := limI_bd k 16384 (by omega); omega
  unfold limI at hk hn
  have h9 : a < 1048576 ∨ (1048576 ≤ a ∧ a < 1048576 + (cn : Int)) ∨ (1048576 + (cn : Int) ≤ a ∧ 1048576 ≤ a ∧ a < 2097152) ∨ (2097152 ≤ a ∧ a < 2097152 + (n : Int)) ∨ (2097152 + (n : Int) ≤ a ∧ 2097152 ≤ a ∧ a < 3145728) ∨ (3145728 ≤ a ∧ a < 3145792) ∨ (3145792 ≤ a ∧ a < 4194304) ∨ (4194304 ≤ a ∧ a < 4194568) ∨ 4194568 ≤ a := by omega
  have E := Lib.hid (fun r h => loc_is cn n st a r h (by omega) (by omega))
  rcases h9 with h | ⟨h, h'⟩ | ⟨h0, h, h'⟩ | ⟨h, h'⟩ | ⟨h0, h, h'⟩ | ⟨h, h'⟩ | ⟨h, h'⟩ | ⟨h, h'⟩ | h <;> cases st
  all_goals
    go_enter Try.func24, Try.ntmps24
    go_wp2
    go_ret
    refine ⟨ret_int (E.out _ ?_), rfl⟩
    simp
    try omega

theorem zeros_eq : ∀ w, (Op.equalIn 10000 45 (.agg (zeros 64)) (.agg #[.int .u8 0, .int .u8 0, .int .u8 0, .int .u8 0, .int .u8 0, .int .u8 0, .int .u8 0, .int .u8 0, .int .u8 0, .int .u8 0, .int .u8 0, .int .u8 0, .int .u8 0, .int .u8 0, .int .u8 0, .int .u8 0, .int .u8 0, .int .u8 0, .int .u8 0, .int .u8 0, .int .u8 0, .int .u8 0, .int .u8 0, .int .u8 0, .int .u8 0, .int .u8 0, .int .u8 0, .int .u8 0, .int .u8 0, .int .u8 0, .int .u8 0, .int .u8 0, .int .u8 0, .int .u8 0, .int .u8 0, .int .u8 0, .int .u8 0, .int .u8 0, .int .u8 0, .int .u8 0, .int .u8 0, .int .u8 0, .int .u8 0, .int .u8 0, .int .u8 0, .int .u8 0, .int .u8 0, .int .u8 0, .int .u8 0, .int .u8 0, .int .u8 0, .int .u8 0, .int .u8 0, .int .u8 0, .int .u8 0, .int .u8 0, .int .u8 0, .int .u8 0, .int .u8 0, .int .u8 0, .int .u8 0, .int .u8 0, .int .u8 0, .int .u8 0])).run Try.prog w = .ok true w := fun _ => by kernel_rfl

set_option maxRecDepth 100000 in
set_option maxHeartbeats 2000000 in
theorem memSays_walk (a c k : Int) (st : Bool) (n : Int) (ha : (Lit.int .u64 a).wf = true) (_hc : (Lit.int .i64 c).wf = true) (_hk : (Lit.int .i64 k).wf = true) (_hn : (Lit.int .i64 n).wf = true) (W : World) :
    Calls Try.prog 4 #[.int .u64 a, .int .i64 c, .int .i64 k, .bool st, .int .i64 n] W fun e w' => e = .returned (.bool true) ∧ Below W.heap.size W w' := by
  have ha0 : 0 ≤ a ∧ a < 18446744073709551616 := by
    have := ha
    simp [Lit.wf, IntKind.min, IntKind.max, IntKind.bits, IntKind.signed] at this
    omega
  obtain ⟨a0, a1⟩ := ha0
  clear ha _hc _hk _hn
  obtain ⟨cn, hcn⟩ := Int.eq_ofNat_of_zero_le (limI_bd k 16384 (by omega)).1
  obtain ⟨nn, hnn⟩ := Int.eq_ofNat_of_zero_le (limI_bd c 256 (by omega)).1
  have R1 := fun W => region_any a c k st W
  rw [regI_loc cn nn st c k hcn hnn a a0 a1 (by have := limI_bd k 16384 (by omega); omega) (by have := limI_bd c 256 (by omega); omega)] at R1
  have HR1 := Lib.hid R1; clear R1
  have HR2 := Lib.hid (fun W => refRegion_any a c k st cn nn W a0 a1 hcn hnn)
  clear hcn hnn a0 a1
  generalize (locI cn nn st a 1 : Int) = r at HR1 HR2
  have heq := zeros_eq
  go_enter Try.func4, Try.ntmps4
  go_wp2_with fail
  refine (read_nil _ _ _).mono ?_
  rintro e w1 ⟨rfl, b1⟩
  go_wp2_with fail
  refine (fetch_nil _ _).mono ?_
  rintro e w' ⟨rfl, rfl⟩
  go_wp2_with fail
  refine (write_nil _ _ _ _).mono ?_
  rintro e w2 ⟨rfl, b2⟩
  go_wp2_with fail
  refine (context_nil _).mono ?_
  rintro e w' ⟨rfl, rfl⟩
  go_wp2_with fail
  refine (stack_nil _).mono ?_
  rintro e w' ⟨rfl, rfl⟩
  go_wp2_with fail
  refine (copy_nil _).mono ?_
  rintro e w' ⟨rfl, rfl⟩
  go_wp2_with fail
  refine (frame_nil _).mono ?_
  rintro e w3 ⟨rfl, b3⟩
  go_wp2_with fail
  refine (HR1.out _).mono ?_
  rintro e w4 ⟨rfl, b4⟩
  go_wp2_with fail
  refine (HR2.out _).mono ?_
  rintro e w' ⟨rfl, rfl⟩
  go_wp2_with fail
  refine (wakes_any _).mono ?_
  rintro e w5 ⟨rfl, b5⟩
  go_wp2
  go_ret
  exact ⟨rfl, below_call (below_call (below_call (below_call b1 b2) b3) b4) b5⟩
end Go.Proofs.Ytocjmckjepjfeaa
