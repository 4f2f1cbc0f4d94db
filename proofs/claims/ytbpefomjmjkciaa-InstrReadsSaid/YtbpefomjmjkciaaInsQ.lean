/-
  Package instr: plain, unpacked, Read.
-/
import Derived.Test.YtbpefomjmjkciaaInsC
import Derived.Test.YtbpefomjmjkciaaBytesV
namespace Go.Proofs.Ytbpefomjmjkciaa.Ins
open Go.RowKit
set_option linter.unusedVariables false
set_option maxRecDepth 100000

def plainI (c : Int) : In := ⟨plainK c, plainO c, plainW c, plainS c, plainB c, 0, 0, 0, 0⟩
theorem and16 : ∀ n : Nat, n < 256 → (bits .and .u8 (n : Int) 16 != 0) = decide (n / 16 % 2 = 1) := by decide +kernel
theorem and16I {c : Int} (h0 : 0 ≤ c) (h1 : c < 256) : (bits .and .u8 c 16 != 0) = decide (c / 16 % 2 = 1) := by
  obtain ⟨n, rfl⟩ : ∃ n : Nat, c = n := ⟨c.toNat, by omega⟩
  rw [and16 n (by omega)]
  exact decide_eq_decide.2 (by omega)

set_option maxHeartbeats 1000000 in
theorem plain_0 (W : World) (c : Int) (h0 : 0 ≤ c) (h1 : c < 32) : Calls Try.prog 75 #[.int .u8 c] W fun e w' => e = .returned (.agg (plainI c).cells) ∧ Below W.heap.size W w' := by
  have B := and16I (c := c) (by omega) (by omega)
  have d1 : c / 32 = 0 := by omega
  have hB : plainB c = decide (c / 16 % 2 = 1) := decide_eq_decide.2 (by omega)
  have h63 : c < 64 := by omega
  rw [← B] at hB
  clear B
  generalize hb : (bits .and .u8 c 16 != 0) = b at *
  rw [show plainI c = In.mk 0 (c % 16) 64 0 b 0 0 0 0 by unfold plainI; rw [hB]; unfold plainK plainO plainW plainS; rw [if_pos (by omega), if_pos (by omega), if_pos (by omega), if_neg (by omega), if_neg (by omega), if_neg (by omega), if_neg (by omega)]]
  go_enter Try.func75, Try.ntmps75
  go_wp2
  refine bodyPost_ret (v := .agg (In.mk 0 (c % 16) 64 0 b 0 0 0 0).cells) (by simp [results, Try.results75, go_sem, In.cells]) rfl ⟨rfl, below_new (Below.refl _ _) _⟩

set_option maxHeartbeats 1000000 in
theorem plain_32 (W : World) (c : Int) (h0 : 32 ≤ c) (h1 : c < 64) : Calls Try.prog 75 #[.int .u8 c] W fun e w' => e = .returned (.agg (plainI c).cells) ∧ Below W.heap.size W w' := by
  have B := and16I (c := c) (by omega) (by omega)
  have d1 : c / 32 = 1 := by omega
  have hB : plainB c = decide (c / 16 % 2 = 1) := decide_eq_decide.2 (by omega)
  have h63 : c < 64 := by omega
  rw [← B] at hB
  clear B
  generalize hb : (bits .and .u8 c 16 != 0) = b at *
  rw [show plainI c = In.mk 0 (c % 16) 32 0 b 0 0 0 0 by unfold plainI; rw [hB]; unfold plainK plainO plainW plainS; rw [if_pos (by omega), if_pos (by omega), if_neg (by omega), if_pos (by omega), if_neg (by omega), if_neg (by omega), if_neg (by omega), if_neg (by omega)]]
  go_enter Try.func75, Try.ntmps75
  go_wp2
  refine bodyPost_ret (v := .agg (In.mk 0 (c % 16) 32 0 b 0 0 0 0).cells) (by simp [results, Try.results75, go_sem, In.cells]) rfl ⟨rfl, below_new (Below.refl _ _) _⟩

set_option maxHeartbeats 1000000 in
theorem plain_64 (W : World)  : Calls Try.prog 75 #[.int .u8 64] W fun e w' => e = .returned (.agg (plainI 64).cells) ∧ Below W.heap.size W w' := by
  rw [show plainI 64 = In.mk 1 0 0 1 false 0 0 0 0 by rfl]
  go_enter Try.func75, Try.ntmps75
  go_wp2
  refine bodyPost_ret (v := .agg (In.mk 1 0 0 1 false 0 0 0 0).cells) (by simp [results, Try.results75, go_sem, In.cells]) rfl ⟨rfl, below_new (Below.refl _ _) _⟩

set_option maxHeartbeats 1000000 in
theorem plain_65 (W : World)  : Calls Try.prog 75 #[.int .u8 65] W fun e w' => e = .returned (.agg (plainI 65).cells) ∧ Below W.heap.size W w' := by
  rw [show plainI 65 = In.mk 1 0 0 2 false 0 0 0 0 by rfl]
  go_enter Try.func75, Try.ntmps75
  go_wp2
  refine bodyPost_ret (v := .agg (In.mk 1 0 0 2 false 0 0 0 0).cells) (by simp [results, Try.results75, go_sem, In.cells]) rfl ⟨rfl, below_new (Below.refl _ _) _⟩

set_option maxHeartbeats 1000000 in
theorem plain_66 (W : World)  : Calls Try.prog 75 #[.int .u8 66] W fun e w' => e = .returned (.agg (plainI 66).cells) ∧ Below W.heap.size W w' := by
  rw [show plainI 66 = In.mk 1 0 0 4 false 0 0 0 0 by rfl]
  go_enter Try.func75, Try.ntmps75
  go_wp2
  refine bodyPost_ret (v := .agg (In.mk 1 0 0 4 false 0 0 0 0).cells) (by simp [results, Try.results75, go_sem, In.cells]) rfl ⟨rfl, below_new (Below.refl _ _) _⟩

set_option maxHeartbeats 1000000 in
theorem plain_67 (W : World)  : Calls Try.prog 75 #[.int .u8 67] W fun e w' => e = .returned (.agg (plainI 67).cells) ∧ Below W.heap.size W w' := by
  rw [show plainI 67 = In.mk 1 0 0 8 false 0 0 0 0 by rfl]
  go_enter Try.func75, Try.ntmps75
  go_wp2
  refine bodyPost_ret (v := .agg (In.mk 1 0 0 8 false 0 0 0 0).cells) (by simp [results, Try.results75, go_sem, In.cells]) rfl ⟨rfl, below_new (Below.refl _ _) _⟩

set_option maxHeartbeats 1000000 in
theorem plain_72 (W : World)  : Calls Try.prog 75 #[.int .u8 72] W fun e w' => e = .returned (.agg (plainI 72).cells) ∧ Below W.heap.size W w' := by
  rw [show plainI 72 = In.mk 2 0 0 1 false 0 0 0 0 by rfl]
  go_enter Try.func75, Try.ntmps75
  go_wp2
  refine bodyPost_ret (v := .agg (In.mk 2 0 0 1 false 0 0 0 0).cells) (by simp [results, Try.results75, go_sem, In.cells]) rfl ⟨rfl, below_new (Below.refl _ _) _⟩

set_option maxHeartbeats 1000000 in
theorem plain_73 (W : World)  : Calls Try.prog 75 #[.int .u8 73] W fun e w' => e = .returned (.agg (plainI 73).cells) ∧ Below W.heap.size W w' := by
  rw [show plainI 73 = In.mk 2 0 0 2 false 0 0 0 0 by rfl]
  go_enter Try.func75, Try.ntmps75
  go_wp2
  refine bodyPost_ret (v := .agg (In.mk 2 0 0 2 false 0 0 0 0).cells) (by simp [results, Try.results75, go_sem, In.cells]) rfl ⟨rfl, below_new (Below.refl _ _) _⟩

set_option maxHeartbeats 1000000 in
theorem plain_74 (W : World)  : Calls Try.prog 75 #[.int .u8 74] W fun e w' => e = .returned (.agg (plainI 74).cells) ∧ Below W.heap.size W w' := by
  rw [show plainI 74 = In.mk 2 0 0 4 false 0 0 0 0 by rfl]
  go_enter Try.func75, Try.ntmps75
  go_wp2
  refine bodyPost_ret (v := .agg (In.mk 2 0 0 4 false 0 0 0 0).cells) (by simp [results, Try.results75, go_sem, In.cells]) rfl ⟨rfl, below_new (Below.refl _ _) _⟩

set_option maxHeartbeats 1000000 in
theorem plain_75 (W : World)  : Calls Try.prog 75 #[.int .u8 75] W fun e w' => e = .returned (.agg (plainI 75).cells) ∧ Below W.heap.size W w' := by
  rw [show plainI 75 = In.mk 2 0 0 8 false 0 0 0 0 by rfl]
  go_enter Try.func75, Try.ntmps75
  go_wp2
  refine bodyPost_ret (v := .agg (In.mk 2 0 0 8 false 0 0 0 0).cells) (by simp [results, Try.results75, go_sem, In.cells]) rfl ⟨rfl, below_new (Below.refl _ _) _⟩

set_option maxHeartbeats 1000000 in
theorem plain_111 (W : World)  : Calls Try.prog 75 #[.int .u8 111] W fun e w' => e = .returned (.agg (plainI 111).cells) ∧ Below W.heap.size W w' := by
  rw [show plainI 111 = In.mk 4 0 0 0 false 0 0 0 0 by rfl]
  go_enter Try.func75, Try.ntmps75
  go_wp2
  refine bodyPost_ret (v := .agg (In.mk 4 0 0 0 false 0 0 0 0).cells) (by simp [results, Try.results75, go_sem, In.cells]) rfl ⟨rfl, below_new (Below.refl _ _) _⟩

set_option maxHeartbeats 1000000 in
theorem plain_112 (W : World)  : Calls Try.prog 75 #[.int .u8 112] W fun e w' => e = .returned (.agg (plainI 112).cells) ∧ Below W.heap.size W w' := by
  rw [show plainI 112 = In.mk 5 0 0 0 false 0 0 0 0 by rfl]
  go_enter Try.func75, Try.ntmps75
  go_wp2
  refine bodyPost_ret (v := .agg (In.mk 5 0 0 0 false 0 0 0 0).cells) (by simp [results, Try.results75, go_sem, In.cells]) rfl ⟨rfl, below_new (Below.refl _ _) _⟩

set_option maxHeartbeats 1000000 in
theorem plain_113 (W : World)  : Calls Try.prog 75 #[.int .u8 113] W fun e w' => e = .returned (.agg (plainI 113).cells) ∧ Below W.heap.size W w' := by
  rw [show plainI 113 = In.mk 6 0 0 0 false 0 0 0 0 by rfl]
  go_enter Try.func75, Try.ntmps75
  go_wp2
  refine bodyPost_ret (v := .agg (In.mk 6 0 0 0 false 0 0 0 0).cells) (by simp [results, Try.results75, go_sem, In.cells]) rfl ⟨rfl, below_new (Below.refl _ _) _⟩

set_option maxHeartbeats 1000000 in
theorem plain_80 (W : World) (c : Int) (h0 : 80 ≤ c) (h1 : c < 111) : Calls Try.prog 75 #[.int .u8 c] W fun e w' => e = .returned (.agg (plainI c).cells) ∧ Below W.heap.size W w' := by
  have B := and16I (c := c - 80) (by omega) (by omega)
  have hB : plainB c = decide ((c - 80) / 16 % 2 = 1) := decide_eq_decide.2 (by omega)
  rw [← B] at hB
  clear B
  generalize hb : (bits .and .u8 (c - 80) 16 != 0) = b at *
  have g1 : ¬ c < 64 := by omega
  have g2 : ¬ c < 68 := by omega
  have g3 : 72 ≤ c := by omega
  have g4 : ¬ c < 76 := by omega
  rw [show plainI c = In.mk 3 ((c - 80) % 16) 0 0 b 0 0 0 0 by unfold plainI; rw [hB]; unfold plainK plainO plainW plainS; rw [if_neg (by omega), if_neg (by omega), if_neg (by omega), if_pos (by omega), if_neg (by omega), if_pos (by omega), if_neg (by omega), if_neg (by omega), if_neg (by omega), if_neg (by omega), if_neg (by omega), if_neg (by omega)]]
  go_enter Try.func75, Try.ntmps75
  go_wp2
  refine bodyPost_ret (v := .agg (In.mk 3 ((c - 80) % 16) 0 0 b 0 0 0 0).cells) (by simp [results, Try.results75, go_sem, In.cells]) rfl ⟨rfl, below_new (Below.refl _ _) _⟩

set_option maxHeartbeats 1000000 in
theorem plain_68 (W : World) (c : Int) (h0 : 68 ≤ c) (h1 : c < 72) : Calls Try.prog 75 #[.int .u8 c] W fun e w' => e = .returned (.agg (plainI c).cells) ∧ Below W.heap.size W w' := by
  have g1 : ¬ c < 64 := by omega
  have g2 : ¬ c < 68 := by omega
  have g3 : ¬ 72 ≤ c := by omega
  have g5 : ¬ 80 ≤ c := by omega
  have e1 : (c == 111) = false := by simp; omega
  have e2 : (c == 112) = false := by simp; omega
  have e3 : (c == 113) = false := by simp; omega
  rw [show plainI c = In.mk (-1) 0 0 0 false 0 0 0 0 by unfold plainI; rw [show plainB c = false from decide_eq_false (by omega)]; unfold plainK plainO plainW plainS; repeat rw [if_neg (by omega)]]
  go_enter Try.func75, Try.ntmps75
  go_wp2
  refine bodyPost_ret (v := .agg (In.mk (-1) 0 0 0 false 0 0 0 0).cells) (by simp [results, Try.results75, go_sem, In.cells]) rfl ⟨rfl, below_new (Below.refl _ _) _⟩

set_option maxHeartbeats 1000000 in
theorem plain_76 (W : World) (c : Int) (h0 : 76 ≤ c) (h1 : c < 80) : Calls Try.prog 75 #[.int .u8 c] W fun e w' => e = .returned (.agg (plainI c).cells) ∧ Below W.heap.size W w' := by
  have g1 : ¬ c < 64 := by omega
  have g2 : ¬ c < 68 := by omega
  have g3 : 72 ≤ c := by omega
  have g4 : ¬ c < 76 := by omega
  have g5 : ¬ 80 ≤ c := by omega
  have e1 : (c == 111) = false := by simp; omega
  have e2 : (c == 112) = false := by simp; omega
  have e3 : (c == 113) = false := by simp; omega
  rw [show plainI c = In.mk (-1) 0 0 0 false 0 0 0 0 by unfold plainI; rw [show plainB c = false from decide_eq_false (by omega)]; unfold plainK plainO plainW plainS; repeat rw [if_neg (by omega)]]
  go_enter Try.func75, Try.ntmps75
  go_wp2
  refine bodyPost_ret (v := .agg (In.mk (-1) 0 0 0 false 0 0 0 0).cells) (by simp [results, Try.results75, go_sem, In.cells]) rfl ⟨rfl, below_new (Below.refl _ _) _⟩

set_option maxHeartbeats 1000000 in
theorem plain_114 (W : World) (c : Int) (h0 : 114 ≤ c) (h1 : c < 256) : Calls Try.prog 75 #[.int .u8 c] W fun e w' => e = .returned (.agg (plainI c).cells) ∧ Below W.heap.size W w' := by
  have g1 : ¬ c < 64 := by omega
  have g2 : ¬ c < 68 := by omega
  have g3 : 72 ≤ c := by omega
  have g4 : ¬ c < 76 := by omega
  have g5 : 80 ≤ c := by omega
  have g6 : ¬ c < 111 := by omega
  have e1 : (c == 111) = false := by simp; omega
  have e2 : (c == 112) = false := by simp; omega
  have e3 : (c == 113) = false := by simp; omega
  rw [show plainI c = In.mk (-1) 0 0 0 false 0 0 0 0 by unfold plainI; rw [show plainB c = false from decide_eq_false (by omega)]; unfold plainK plainO plainW plainS; repeat rw [if_neg (by omega)]]
  go_enter Try.func75, Try.ntmps75
  go_wp2
  refine bodyPost_ret (v := .agg (In.mk (-1) 0 0 0 false 0 0 0 0).cells) (by simp [results, Try.results75, go_sem, In.cells]) rfl ⟨rfl, below_new (Below.refl _ _) _⟩

theorem plain_any (c : Int) (h0 : 0 ≤ c) (h1 : c < 256) (W : World) : Calls Try.prog 75 #[.int .u8 c] W fun e w' => e = .returned (.agg (plainI c).cells) ∧ Below W.heap.size W w' := by
  by_cases c1 : c < 32
  · exact plain_0 W c h0 c1
  by_cases c2 : c < 64
  · exact plain_32 W c (by omega) c2
  by_cases c3 : c < 68
  · rcases (by omega : c = 64 ∨ c = 65 ∨ c = 66 ∨ c = 67) with rfl | rfl | rfl | rfl
    · exact plain_64 W
    · exact plain_65 W
    · exact plain_66 W
    · exact plain_67 W
  by_cases c4 : c < 72
  · exact plain_68 W c (by omega) c4
  by_cases c5 : c < 76
  · rcases (by omega : c = 72 ∨ c = 73 ∨ c = 74 ∨ c = 75) with rfl | rfl | rfl | rfl
    · exact plain_72 W
    · exact plain_73 W
    · exact plain_74 W
    · exact plain_75 W
  by_cases c6 : c < 80
  · exact plain_76 W c (by omega) c6
  by_cases c7 : c < 111
  · exact plain_80 W c (by omega) c7
  by_cases c8 : c < 114
  · rcases (by omega : c = 111 ∨ c = 112 ∨ c = 113) with rfl | rfl | rfl
    · exact plain_111 W
    · exact plain_112 W
    · exact plain_113 W
  exact plain_114 W c (by omega) h1
end Go.Proofs.Ytbpefomjmjkciaa.Ins
